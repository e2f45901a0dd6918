"""The holes of a board: put in, taken away, loaded, counted."""

OUT_OF_RANGE = -1
POINT_TAKEN = -2
TOO_MANY_HOLES = -3
TOO_MANY_IN_PANEL = -4

GREATEST_DIAMETER = 10000000
MOST_HOLES = 48
MOST_IN_PANEL = 512


def is_on_board(board, x, y, diameter):
    if not (0 <= x <= board.width and 0 <= y <= board.height):
        return False
    return 1 <= diameter <= GREATEST_DIAMETER


def is_point_taken(holes, x, y):
    for hole in holes:
        if hole[0] == x and hole[1] == y:
            return True
    return False


def is_panel_too_full(hole_count, columns, rows):
    return hole_count * columns * rows > MOST_IN_PANEL


def add_hole(board, x, y, diameter):
    """The new hole's number, or the first refusal that is due."""
    number = len(board.holes)
    if not is_on_board(board, x, y, diameter):
        return OUT_OF_RANGE
    if is_point_taken(board.holes, x, y):
        return POINT_TAKEN
    if number >= MOST_HOLES:
        return TOO_MANY_HOLES
    if is_panel_too_full(number + 1, board.columns, board.rows):
        return TOO_MANY_IN_PANEL
    board.holes.append((x, y, diameter))
    board.order.append(number)
    return number


def are_all_on_board(board, holes):
    return all([is_on_board(board, hole[0], hole[1], hole[2]) for hole in holes])


def have_unlike_points(holes):
    return len(set([(hole[0], hole[1]) for hole in holes])) == len(holes)


def load_holes(board, holes):
    """How many holes the board has then, or the first refusal that is due.

    Each refusal is looked for in all holes before the next one is, and nothing
    is changed before the last one.
    """
    if not are_all_on_board(board, holes):
        return OUT_OF_RANGE
    if not have_unlike_points(holes):
        return POINT_TAKEN
    if len(holes) > MOST_HOLES:
        return TOO_MANY_HOLES
    if is_panel_too_full(len(holes), board.columns, board.rows):
        return TOO_MANY_IN_PANEL
    board.holes = list(holes)
    board.order = list(range(len(holes)))
    return len(holes)


def order_without(order, dropped):
    """The order when the hole is gone and those behind it have moved up."""
    kept = []
    for number in order:
        if number < dropped:
            kept.append(number)
        elif number > dropped:
            kept.append(number - 1)
    return kept


def drop_hole(board, number):
    if not 0 <= number < len(board.holes):
        return OUT_OF_RANGE
    board.holes.pop(number)
    board.order = order_without(board.order, number)
    return len(board.holes)


def diameters(holes):
    """The unlike diameters, the least first."""
    return sorted(set([hole[2] for hole in holes]))


def numbers_of_diameter(holes, diameter):
    return [number for number, hole in enumerate(holes) if hole[2] == diameter]


def count_left(holes, taken):
    """How many of the holes are left when each one taken takes away just one like it."""
    taking = {}
    for hole in taken:
        taking[hole] = taking.get(hole, 0) + 1
    left = 0
    for hole in holes:
        if taking.get(hole, 0) > 0:
            taking[hole] -= 1
        else:
            left += 1
    return left
