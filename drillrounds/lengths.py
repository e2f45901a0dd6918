"""Ways, steps, and how long a round is."""

# No hole has the diameter 0, so home is never taken for a hole at its point.
HOME = (0, 0, 0)


def way(start, goal):
    return max(abs(start[0] - goal[0]), abs(start[1] - goal[1]))


def step(start, goal, change_cost):
    """Home has no tool: a step from home or to it costs the way alone."""
    if start == HOME or goal == HOME or start[2] == goal[2]:
        return way(start, goal)
    return way(start, goal) + change_cost


def round_length(holes, order, change_cost):
    length = 0
    here = HOME
    for number in order:
        length += step(here, holes[number], change_cost)
        here = holes[number]
    return length + step(here, HOME, change_cost)


def kept_length(board):
    return round_length(board.holes, board.order, board.change_cost)


def count_changes(holes, order):
    changes = 0
    for position in range(1, len(order)):
        if holes[order[position - 1]][2] != holes[order[position]][2]:
            changes += 1
    return changes


def steps_from(start, points, change_cost):
    return [step(start, goal, change_cost) for goal in points]


def step_table(holes, change_cost):
    """table[a][b] is the step from a to b; home stands behind the last hole."""
    points = holes + [HOME]
    return [steps_from(start, points, change_cost) for start in points]
