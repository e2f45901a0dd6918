"""How many boards can be cut from a panel: rows of upright ones, and above them turned ones."""

WRONG_FIT = -1
TOO_MANY_ROWS = -2

GREATEST_SIDE = 1000000000
GREATEST_GAP = 1000000000
MOST_UPRIGHT_ROWS = 1000


def count_along(size, side, gap):
    """How many boards with that side stand along the size, with gaps between."""
    if size < side:
        return 0
    return (size - side) // (side + gap) + 1


def best_fit(board, pw, ph, gap):
    """[boards, upright rows, boards in each, turned rows, boards in each], the fewest upright rows of equals."""
    upright = count_along(pw, board.width, gap)
    turned = count_along(pw, board.height, gap)
    best = []
    for rows in range(count_along(ph, board.height, gap) + 1):
        height_left = ph - rows * (board.height + gap)
        turned_rows = count_along(height_left, board.width, gap)
        boards = rows * upright + turned_rows * turned
        if not best or boards > best[0]:
            best = [boards, rows, upright, turned_rows, turned]
    return best


def fit_boards(board, pw, ph, gap):
    """The best fit, or the first refusal that is due, as a list."""
    if not (1 <= pw <= GREATEST_SIDE and 1 <= ph <= GREATEST_SIDE):
        return [WRONG_FIT]
    if not 0 <= gap <= GREATEST_GAP:
        return [WRONG_FIT]
    if count_along(ph, board.height, gap) > MOST_UPRIGHT_ROWS:
        return [TOO_MANY_ROWS]
    return best_fit(board, pw, ph, gap)
