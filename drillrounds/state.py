"""What the calls work on: a board with its holes, its kept order and its panel."""

FIRST_WIDTH = 1000
FIRST_HEIGHT = 1000
FIRST_CHANGE_COST = 0

GREATEST_SIDE = 999999999
GREATEST_CHANGE_COST = 1000000000

WRONG_BOARD = -1


class Board:
    """A hole is a tuple (x, y, d); the kept order is a list of the holes' numbers."""

    def __init__(self):
        self.renew(FIRST_WIDTH, FIRST_HEIGHT, FIRST_CHANGE_COST)

    def renew(self, width, height, change_cost):
        self.width = width
        self.height = height
        self.change_cost = change_cost
        self.holes = []
        self.order = []
        self.set_panel(1, 1, width + 1, height + 1, 0)

    def set_panel(self, columns, rows, px, py, alt):
        self.columns = columns
        self.rows = rows
        self.px = px
        self.py = py
        self.alt = alt


def renew_board(board, width, height, change_cost):
    if not (1 <= width <= GREATEST_SIDE and 1 <= height <= GREATEST_SIDE):
        return WRONG_BOARD
    if not 0 <= change_cost <= GREATEST_CHANGE_COST:
        return WRONG_BOARD
    board.renew(width, height, change_cost)
    return 0
