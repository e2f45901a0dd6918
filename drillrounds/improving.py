"""An order made shorter by turning parts round and by moving single holes.

Orders stand here as stops: home, the holes, home. So a hole's position in the
stops is one more than its position in the order, and each has neighbours.
A change is told by what it saves, which needs the few steps it touches alone;
that holds since a step costs the same both ways.
"""

from drillrounds.lengths import step_table

NO_CHANGE = (0, 0, 0)


def best_turn(table, stops):
    """(saving, i, j) of the best part to turn round, the first of equals."""
    best = NO_CHANGE
    last = len(stops) - 2
    for i in range(1, last + 1):
        before = table[stops[i - 1]]
        first = table[stops[i]]
        for j in range(i + 1, last + 1):
            steps_now = before[stops[i]] + table[stops[j]][stops[j + 1]]
            steps_then = before[stops[j]] + first[stops[j + 1]]
            if steps_now - steps_then > best[0]:
                best = (steps_now - steps_then, i, j)
    return best


def detour(table, start, stop, goal):
    return table[start][stop] + table[stop][goal] - table[start][goal]


def best_move(table, stops):
    """(saving, i, j) of the best single hole to move, the first of equals."""
    best = NO_CHANGE
    last = len(stops) - 2
    for i in range(1, last + 1):
        detour_now = detour(table, stops[i - 1], stops[i], stops[i + 1])
        rest = stops[:i] + stops[i + 1:]
        for j in range(1, last + 1):
            if j == i:
                continue
            saving = detour_now - detour(table, rest[j - 1], stops[i], rest[j])
            if saving > best[0]:
                best = (saving, i, j)
    return best


def turned(stops, i, j):
    return stops[:i] + list(reversed(stops[i:j + 1])) + stops[j + 1:]


def moved(stops, i, j):
    rest = stops[:i] + stops[i + 1:]
    return rest[:j] + [stops[i]] + rest[j:]


def change_once(table, stops):
    """The stops after the best change; the same stops if none is shorter."""
    turn = best_turn(table, stops)
    move = best_move(table, stops)
    # Turns come before moves, so a move must save more than the best turn.
    if move[0] > turn[0]:
        return moved(stops, move[1], move[2])
    if turn[0] > 0:
        return turned(stops, turn[1], turn[2])
    return stops


def improve_order(board, budget):
    """Betters the kept order by at most budget changes; answers how many were made."""
    table = step_table(board.holes, board.change_cost)
    home = len(board.holes)
    stops = [home] + board.order + [home]
    made = 0
    while made < budget:
        changed = change_once(table, stops)
        if changed == stops:
            break
        stops = changed
        made += 1
    board.order = stops[1:-1]
    return made
