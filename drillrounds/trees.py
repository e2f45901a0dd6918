"""The tree that grows from home over the holes, and the order in which it is walked.

In the tree home has the number 0, and hole i has i + 1.
"""

from drillrounds.lengths import HOME, way


def nearest_left(joins, left):
    """The first of equals is the least number, as left is in rising order."""
    return min(left, key=lambda number: joins[number][0])


def grown_tree(holes):
    """For each hole its way to its parent, and its parent's number in the tree."""
    joins = [(way(HOME, hole), 0) for hole in holes]
    left = list(range(len(holes)))
    while left:
        number = nearest_left(joins, left)
        left.remove(number)
        for other in left:
            # Of equal ways the pair with the lesser parent is the lesser one.
            joins[other] = min(joins[other], (way(holes[number], holes[other]), number + 1))
    return joins


def children_lists(joins):
    """The children of home and of each hole, by their numbers in the tree."""
    children = [[] for number in range(len(joins) + 1)]
    for number, join in enumerate(joins, start=1):
        children[join[1]].append(number)
    return children


def walked_order(holes):
    """Each hole before its children; what waits longest stands deepest in the pile."""
    children = children_lists(grown_tree(holes))
    order = []
    waiting = list(reversed(children[0]))
    while waiting:
        number = waiting.pop()
        order.append(number - 1)
        waiting.extend(list(reversed(children[number])))
    return order
