"""The calls on a board, and the function that answers a list of them.

Each call is a function of the board and of the reader from which it takes its
own numbers, and gives back the list of the numbers that it answers.
"""

from drillrounds.holes import add_hole, diameters, drop_hole, numbers_of_diameter
from drillrounds.improving import improve_order
from drillrounds.lengths import count_changes, kept_length
from drillrounds.orders import grouped_order, is_order, nearest_order
from drillrounds.reader import Reader
from drillrounds.shortest import shortest_round
from drillrounds.state import Board, renew_board

NO_ORDER = -1
WRONG_BUDGET = -1
TOO_MANY_FOR_BEST = -3

GREATEST_BUDGET = 100
MOST_FOR_BEST = 7


def call_board(board, reader):
    width = reader.take()
    height = reader.take()
    change_cost = reader.take()
    return [renew_board(board, width, height, change_cost)]


def call_hole(board, reader):
    x = reader.take()
    y = reader.take()
    diameter = reader.take()
    return [add_hole(board, x, y, diameter)]


def call_drop(board, reader):
    return [drop_hole(board, reader.take())]


def call_holes(board, reader):
    answer = [len(board.holes)]
    for hole in board.holes:
        answer.extend(hole)
    return answer


def call_tools(board, reader):
    unlike = diameters(board.holes)
    answer = [len(unlike)]
    for diameter in unlike:
        answer.append(diameter)
        answer.append(len(numbers_of_diameter(board.holes, diameter)))
    return answer


def call_order(board, reader):
    return [len(board.order)] + board.order


def call_set_order(board, reader):
    numbers = reader.take_row()
    if not is_order(numbers, len(board.holes)):
        return [NO_ORDER]
    board.order = numbers
    return [kept_length(board)]


def call_length(board, reader):
    return [kept_length(board), count_changes(board.holes, board.order)]


def call_nearest(board, reader):
    board.order = nearest_order(board.holes, board.change_cost)
    return [kept_length(board)]


def call_grouped(board, reader):
    board.order = grouped_order(board.holes)
    return [kept_length(board)]


def call_improve(board, reader):
    budget = reader.take()
    if not 0 <= budget <= GREATEST_BUDGET:
        return [WRONG_BUDGET]
    made = improve_order(board, budget)
    return [made, kept_length(board)]


def call_best(board, reader):
    if len(board.holes) > MOST_FOR_BEST:
        return [TOO_MANY_FOR_BEST]
    return shortest_round(board.holes, board.change_cost)


# A call's number is its place in this row.
CALLS = (
    call_board,
    call_hole,
    call_drop,
    call_holes,
    call_tools,
    call_order,
    call_set_order,
    call_length,
    call_nearest,
    call_grouped,
    call_improve,
    call_best,
)


def answers(calls):
    """For each call, in order, how many numbers are answered, then these."""
    reader = Reader(calls)
    board = Board()
    answered = []
    while reader.has_more():
        call = CALLS[reader.take()]
        answer = call(board, reader)
        answered.append(len(answer))
        answered.extend(answer)
    return answered
