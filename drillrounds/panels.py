"""The panel: copies of the board in columns and rows."""

from drillrounds.holes import TOO_MANY_IN_PANEL, is_panel_too_full

WRONG_PANEL = -1
PANEL_TOO_LARGE = -2

MOST_COLUMNS = 16
MOST_ROWS = 16
GREATEST_PANEL_SIDE = 1000000000


def is_panel_in_range(board, columns, rows, px, py, alt):
    if not (1 <= columns <= MOST_COLUMNS and 1 <= rows <= MOST_ROWS):
        return False
    if not (board.width < px <= GREATEST_PANEL_SIDE and board.height < py <= GREATEST_PANEL_SIDE):
        return False
    return 0 <= alt <= 1


def change_panel(board, columns, rows, px, py, alt):
    """0, or the first refusal that is due."""
    if not is_panel_in_range(board, columns, rows, px, py, alt):
        return WRONG_PANEL
    if columns * px > GREATEST_PANEL_SIDE or rows * py > GREATEST_PANEL_SIDE:
        return PANEL_TOO_LARGE
    if is_panel_too_full(len(board.holes), columns, rows):
        return TOO_MANY_IN_PANEL
    board.set_panel(columns, rows, px, py, alt)
    return 0


def is_turned(board, column, row):
    return board.alt == 1 and (column + row) % 2 == 1


def copied_holes(board, column, row):
    left = column * board.px
    bottom = row * board.py
    if is_turned(board, column, row):
        right = left + board.width
        top = bottom + board.height
        return [(right - hole[0], top - hole[1], hole[2]) for hole in board.holes]
    return [(left + hole[0], bottom + hole[1], hole[2]) for hole in board.holes]


def panel_holes(board):
    holes = []
    for row in range(board.rows):
        for column in range(board.columns):
            holes.extend(copied_holes(board, column, row))
    return holes


def find_hole(board, x, y):
    """[column, row, number] of the panel's hole at that point; [] if there is none.

    A step is greater than the board's side, so the point tells the one copy
    that can reach it.
    """
    column = x // board.px
    row = y // board.py
    if not (0 <= column < board.columns and 0 <= row < board.rows):
        return []
    for number, hole in enumerate(copied_holes(board, column, row)):
        if hole[0] == x and hole[1] == y:
            return [column, row, number]
    return []
