"""Many lists of calls, each compared with the slow program call by call."""

import unittest

from support import (BEST, BOARD, DROP, GROUPED, HOLE, HOLES, IMPROVE, LENGTH, NEAREST, ORDER, TOOLS, ask,
                     plain_answers, set_to)


class Draw:
    """Numbers that look as if drawn, and are the same each time and on each Python."""

    def __init__(self, seed):
        self.state = seed

    def below(self, limit):
        self.state = (self.state * 6364136223846793005 + 1442695040888963407) % 2 ** 64
        return (self.state >> 33) % limit

    def of(self, choices):
        return choices[self.below(len(choices))]

    def shuffled(self, size):
        left = list(range(size))
        return [left.pop(self.below(len(left))) for _ in range(size)]


def drawn_holes(draw, count, side, tools):
    return [[HOLE, draw.below(side + 1), draw.below(side + 1), 1 + draw.below(tools)] for _ in range(count)]


def drawn_call(draw, side):
    number = draw.of((HOLE, HOLE, HOLE, DROP, HOLES, TOOLS, ORDER, "set", LENGTH, NEAREST, GROUPED, IMPROVE, BEST))
    if number == HOLE:
        return [HOLE, draw.below(side + 3) - 1, draw.below(side + 3) - 1, draw.below(5)]
    if number == DROP:
        return [DROP, draw.below(8) - 1]
    if number == IMPROVE:
        return [IMPROVE, draw.of((-1, 0, 1, 2, 3, 100, 101))]
    if number == "set":
        return set_to(*draw.shuffled(draw.below(8)))
    return [number]


class Compare(unittest.TestCase):
    def same(self, calls):
        self.assertEqual(ask(*calls), plain_answers(calls), calls)

    def test_calls_in_any_order(self):
        for seed in range(300):
            draw = Draw(seed)
            side = 2 + draw.below(8)
            calls = [[BOARD, side, side, draw.of((0, 1, 2, 5, 50))]]
            self.same(calls + [drawn_call(draw, side) for _ in range(60)])

    def test_improve_step_by_step(self):
        # Small boards, so that many changes are equally good.
        for seed in range(400):
            draw = Draw(1000 + seed)
            side = 2 + draw.below(5)
            calls = [[BOARD, side, side, draw.of((0, 1, 3, 10))], *drawn_holes(draw, 4 + draw.below(7), side, 3)]
            for _ in range(8):
                calls += [[IMPROVE, 1], [ORDER]]
            self.same(calls)

    def test_best_of_up_to_7(self):
        for seed in range(120):
            draw = Draw(2000 + seed)
            side = 1 + draw.below(6)
            self.same([[BOARD, side, side, draw.of((0, 1, 3, 10))],
                       *drawn_holes(draw, 2 + draw.below(6), side, 3), [BEST], [ORDER]])

    def test_orders_of_many_holes(self):
        for seed in range(60):
            draw = Draw(3000 + seed)
            side = draw.of((7, 30, 999999999))
            self.same([[BOARD, side, side, draw.of((0, 2, 20, 1000000000))], *drawn_holes(draw, 55, side, 4),
                       [NEAREST], [ORDER], [GROUPED], [ORDER], [LENGTH], [TOOLS]])

    def test_improve_many_holes(self):
        for seed in range(3):
            draw = Draw(4000 + seed)
            side = draw.of((7, 30, 999999999))
            self.same([[BOARD, side, side, draw.of((0, 2, 20))], *drawn_holes(draw, 30, side, 4),
                       [IMPROVE, 4], [ORDER], [GROUPED], [IMPROVE, 4], [ORDER]])


if __name__ == "__main__":
    unittest.main()
