"""Orders that are handed in, and orders that are made hole by hole."""

from drillrounds.holes import diameters, numbers_of_diameter
from drillrounds.lengths import HOME, step


def is_order(numbers, hole_count):
    if len(numbers) != hole_count:
        return False
    seen = {}
    for number in numbers:
        if not 0 <= number < hole_count or number in seen:
            return False
        seen[number] = True
    return True


def cheapest(holes, left, start, change_cost):
    """The first of equals is the least number, as left is in rising order."""
    chosen = left[0]
    least = step(start, holes[chosen], change_cost)
    for number in left:
        cost = step(start, holes[number], change_cost)
        if cost < least:
            chosen = number
            least = cost
    return chosen


def walk_cheapest(holes, numbers, start, change_cost):
    """Goes through all these holes, always on to the one with the cheapest step."""
    left = list(numbers)
    walked = []
    here = start
    while left:
        number = cheapest(holes, left, here, change_cost)
        left.remove(number)
        walked.append(number)
        here = holes[number]
    return walked


def nearest_order(holes, change_cost):
    return walk_cheapest(holes, list(range(len(holes))), HOME, change_cost)


def grouped_order(holes):
    """No change is counted here: to all holes of one diameter it would be the same."""
    order = []
    here = HOME
    for diameter in diameters(holes):
        order.extend(walk_cheapest(holes, numbers_of_diameter(holes, diameter), here, 0))
        here = holes[order[-1]]
    return order
