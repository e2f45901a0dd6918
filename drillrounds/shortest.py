"""The shortest order of all, for few holes.

The holes that are left are bits of one number: bit k stands for hole k. For
each such number the shortest rests of a round are found once, so not every
order has to be gone through.
"""

from drillrounds.lengths import step_table


def rest_through(table, rests, left, here, number):
    """The least length from here when the step to this hole is the next one."""
    return table[here][number] + rests[left - (1 << number)][number]


def numbers_left(table, left):
    return [number for number in range(len(table) - 1) if left & (1 << number)]


def shortest_rest(table, rests, left, here):
    """The least length from here through all that are left and home."""
    if left == 0:
        return table[here][-1]
    return min([rest_through(table, rests, left, here, number) for number in numbers_left(table, left)])


def shortest_rests(table):
    """rests[left][here] for each set of holes left and each place to be at."""
    rests = []
    for left in range(1 << (len(table) - 1)):
        rests.append([shortest_rest(table, rests, left, here) for here in range(len(table))])
    return rests


def first_onward(table, rests, left, here):
    """The least number with which a shortest rest goes on."""
    onward = []
    for number in numbers_left(table, left):
        if rest_through(table, rests, left, here, number) == rests[left][here]:
            onward.append(number)
    return onward[0]


def shortest_round(holes, change_cost):
    """The least length, then its order, of equally short ones the first in the order of lists."""
    table = step_table(holes, change_cost)
    rests = shortest_rests(table)
    here = len(holes)
    left = (1 << len(holes)) - 1
    answer = [rests[left][here]]
    while left:
        here = first_onward(table, rests, left, here)
        left -= 1 << here
        answer.append(here)
    return answer
