"""Programs that are written, as lists of lines: for holes in order, and for a panel."""

from drillrounds.holes import diameters

PROGRAM_WITHOUT_HOLES = "tool 1"
MOST_IN_RUN = 1000


def tool_line(diameter):
    return f"tool {diameter}"


def point_line(word, x, y):
    return f"{word} {x} {y}"


def rep_line(times):
    return f"rep {times}"


def kept_holes(board):
    return [board.holes[number] for number in board.order]


def offset(holes, place):
    """How far the hole at that place is from the one before it, in x and in y."""
    return (holes[place][0] - holes[place - 1][0], holes[place][1] - holes[place - 1][1])


def run_size(holes, start):
    """How many holes from there on have one diameter and the same difference to the one before."""
    size = 1
    while size < MOST_IN_RUN and start + size < len(holes):
        place = start + size
        if holes[place][2] != holes[start][2] or offset(holes, place) != offset(holes, start):
            break
        size += 1
    return size


def run_line(size, x, y):
    if size == 1:
        return point_line("by", x, y)
    return f"run {size} {x} {y}"


def program_lines(holes):
    if not holes:
        return [PROGRAM_WITHOUT_HOLES]
    lines = [tool_line(holes[0][2]), point_line("at", holes[0][0], holes[0][1])]
    place = 1
    while place < len(holes):
        if holes[place][2] != holes[place - 1][2]:
            lines.append(tool_line(holes[place][2]))
        size = run_size(holes, place)
        moved = offset(holes, place)
        lines.append(run_line(size, moved[0], moved[1]))
        place += size
    return lines


def copy_lines(holes, px):
    """The lines that drill these holes of one copy and go to the first of them in the next column."""
    lines = ["here"]
    for place in range(1, len(holes)):
        moved = offset(holes, place)
        lines.append(point_line("by", moved[0], moved[1]))
    first = holes[0]
    last = holes[-1]
    lines.append(point_line("go", first[0] - last[0] + px, first[1] - last[1]))
    return lines


def panel_tool_lines(board, holes):
    """The lines that drill these holes, all of one diameter, in each copy of the board."""
    lines = [tool_line(holes[0][2]), point_line("to", holes[0][0], holes[0][1])]
    lines.append(rep_line(board.rows))
    lines.append(rep_line(board.columns))
    lines.extend(copy_lines(holes, board.px))
    lines.append("end")
    lines.append(point_line("go", -board.columns * board.px, board.py))
    lines.append("end")
    return lines


def panel_program_lines(board):
    """The program of a panel in which no copy is turned."""
    if not board.holes:
        return [PROGRAM_WITHOUT_HOLES]
    lines = []
    for diameter in diameters(board.holes):
        holes = [hole for hole in kept_holes(board) if hole[2] == diameter]
        lines.extend(panel_tool_lines(board, holes))
    return lines
