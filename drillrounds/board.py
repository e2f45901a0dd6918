"""The calls on a board, and the function that answers a list of them.

Each call is a function of the board and of the reader from which it takes its
own numbers, and gives back the list of the numbers that it answers.
"""

from drillrounds.fitting import fit_boards
from drillrounds.holes import add_hole, count_left, diameters, drop_hole, load_holes, numbers_of_diameter
from drillrounds.improving import improve_order
from drillrounds.lengths import count_changes, kept_length
from drillrounds.orders import grouped_order, is_order, nearest_order
from drillrounds.panels import change_panel, find_hole, panel_holes
from drillrounds.reader import Reader
from drillrounds.running import run_text
from drillrounds.shortest import shortest_round
from drillrounds.state import Board, renew_board
from drillrounds.texts import bytes_of
from drillrounds.trees import grown_tree, walked_order
from drillrounds.writing import kept_holes, panel_program_lines, program_lines

NO_ORDER = -1
WRONG_BUDGET = -1
TOO_MANY_FOR_BEST = -3
PANEL_TURNS_COPIES = -2

GREATEST_BUDGET = 100
MOST_FOR_BEST = 7


def told_holes(holes):
    """How many, then x, y, d of each."""
    answer = [len(holes)]
    for hole in holes:
        answer.extend(hole)
    return answer


def told_program(lines):
    """How many bytes, then the bytes."""
    text = bytes_of(lines)
    return [len(text)] + text


def call_board(board, reader):
    width = reader.take()
    height = reader.take()
    change_cost = reader.take()
    return [renew_board(board, width, height, change_cost)]


def call_hole(board, reader):
    x = reader.take()
    y = reader.take()
    diameter = reader.take()
    return [add_hole(board, x, y, diameter)]


def call_drop(board, reader):
    return [drop_hole(board, reader.take())]


def call_holes(board, reader):
    return told_holes(board.holes)


def call_tools(board, reader):
    unlike = diameters(board.holes)
    answer = [len(unlike)]
    for diameter in unlike:
        answer.append(diameter)
        answer.append(len(numbers_of_diameter(board.holes, diameter)))
    return answer


def call_order(board, reader):
    return [len(board.order)] + board.order


def call_set_order(board, reader):
    numbers = reader.take_row()
    if not is_order(numbers, len(board.holes)):
        return [NO_ORDER]
    board.order = numbers
    return [kept_length(board)]


def call_length(board, reader):
    return [kept_length(board), count_changes(board.holes, board.order)]


def call_nearest(board, reader):
    board.order = nearest_order(board.holes, board.change_cost)
    return [kept_length(board)]


def call_grouped(board, reader):
    board.order = grouped_order(board.holes)
    return [kept_length(board)]


def call_improve(board, reader):
    budget = reader.take()
    if not 0 <= budget <= GREATEST_BUDGET:
        return [WRONG_BUDGET]
    made = improve_order(board, budget)
    return [made, kept_length(board)]


def call_best(board, reader):
    if len(board.holes) > MOST_FOR_BEST:
        return [TOO_MANY_FOR_BEST]
    return shortest_round(board.holes, board.change_cost)


def call_tree(board, reader):
    joins = grown_tree(board.holes)
    return [sum([join[0] for join in joins])] + [join[1] for join in joins]


def call_walk(board, reader):
    board.order = walked_order(board.holes)
    return [kept_length(board)]


def call_panel(board, reader):
    columns = reader.take()
    rows = reader.take()
    px = reader.take()
    py = reader.take()
    alt = reader.take()
    return [change_panel(board, columns, rows, px, py, alt)]


def call_panelholes(board, reader):
    return told_holes(panel_holes(board))


def call_find(board, reader):
    x = reader.take()
    y = reader.take()
    found = find_hole(board, x, y)
    if not found:
        return [0]
    return [1] + found


def call_fit(board, reader):
    pw = reader.take()
    ph = reader.take()
    gap = reader.take()
    return fit_boards(board, pw, ph, gap)


def call_program(board, reader):
    return told_program(program_lines(kept_holes(board)))


def call_panelprogram(board, reader):
    if board.alt == 1:
        return [PANEL_TURNS_COPIES]
    return told_program(panel_program_lines(board))


def call_run(board, reader):
    machine = run_text(reader.take_row())
    if machine.refusal < 0:
        return [machine.refusal]
    return told_holes(machine.drilled)


def call_check(board, reader):
    machine = run_text(reader.take_row())
    if machine.refusal < 0:
        return [machine.refusal]
    wanted = panel_holes(board)
    return [count_left(wanted, machine.drilled), count_left(machine.drilled, wanted)]


def call_load(board, reader):
    machine = run_text(reader.take_row())
    if machine.refusal < 0:
        return [machine.refusal]
    return [load_holes(board, machine.drilled)]


# A call's number is its place in this row.
CALLS = (
    call_board,
    call_hole,
    call_drop,
    call_holes,
    call_tools,
    call_order,
    call_set_order,
    call_length,
    call_nearest,
    call_grouped,
    call_improve,
    call_best,
    call_tree,
    call_walk,
    call_panel,
    call_panelholes,
    call_find,
    call_fit,
    call_program,
    call_panelprogram,
    call_run,
    call_check,
    call_load,
)


def answers(calls):
    """For each call, in order, how many numbers are answered, then these."""
    reader = Reader(calls)
    board = Board()
    answered = []
    while reader.has_more():
        call = CALLS[reader.take()]
        answer = call(board, reader)
        answered.append(len(answer))
        answered.extend(answer)
    return answered
