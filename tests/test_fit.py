"""fit: call 17."""

import unittest

from support import BOARD, FAR, FIT, HOLE, PANEL, PANELHOLES, SEEN, ask, ask_last, drilled, set_to

SMALL = [BOARD, 3, 2, 0]


def fit(*numbers):
    return ask_last(SMALL, [FIT, *numbers])


class FitCall(unittest.TestCase):
    def test_the_one_that_is_told(self):
        self.assertEqual(fit(7, 7, 0), [7, 2, 2, 1, 3])

    def test_on_the_first_board(self):
        # 2 by 2, in whatever way.
        self.assertEqual(ask([FIT, 2500, 2500, 0]), [[4, 0, 2, 2, 2]])

    def test_too_small(self):
        self.assertEqual(fit(1, 1, 0), [0, 0, 0, 0, 0])
        # Too narrow for either: 33 rows of turned ones with none in each.
        self.assertEqual(fit(1, 100, 0), [0, 0, 0, 33, 0])
        # Too low for either.
        self.assertEqual(fit(100, 1, 0), [0, 0, 33, 0, 50])

    def test_just_large_enough(self):
        self.assertEqual(fit(3, 2, 0), [1, 1, 1, 0, 1])
        self.assertEqual(fit(2, 3, 0), [1, 0, 0, 1, 1])
        self.assertEqual(fit(2, 2, 0), [0, 0, 0, 0, 1])
        # 1 upright one or 1 turned one.
        self.assertEqual(fit(3, 3, 0), [1, 0, 1, 1, 1])

    def test_upright_alone(self):
        # 9 by 4: 2 rows of 3; turned there is 1 row of 4.
        self.assertEqual(fit(9, 4, 0), [6, 2, 3, 0, 4])

    def test_turned_alone(self):
        # 4 by 6: 2 rows of 2 turned ones; upright 1 in a row, at most 3.
        self.assertEqual(fit(4, 6, 0), [4, 0, 1, 2, 2])

    def test_the_least_k_of_equals(self):
        # With gaps of 1: 2 rows of 2 turned ones, one of each, or 2 rows of 2 upright ones.
        self.assertEqual(fit(7, 7, 1), [4, 0, 2, 2, 2])
        # 3 by 2001: 999 upright rows and a turned one, or 1000 upright ones.
        self.assertEqual(fit(3, 2001, 0), [1000, 999, 1, 1, 1])

    def test_gaps(self):
        # A width of 7 has two of 3 with a gap of 1, and one with a gap of 2; of 2 it has two with a
        # gap of 3, and one with a gap of 4. A height of 2 has one upright row.
        self.assertEqual(fit(7, 2, 1), [2, 1, 2, 0, 2])
        self.assertEqual(fit(7, 2, 2), [1, 1, 1, 0, 2])
        self.assertEqual(fit(7, 2, 3), [1, 1, 1, 0, 2])
        self.assertEqual(fit(7, 2, 4), [1, 1, 1, 0, 1])

    def test_a_gap_between_upright_and_turned_rows(self):
        # 2 upright ones of 2 high, and 3 for a turned one: 5 without a gap, 6 with one of 1.
        # As wide as 3, each row has one; as high as 5, two upright rows are as good from a gap of 1 on.
        self.assertEqual(fit(3, 5, 0), [2, 1, 1, 1, 1])
        self.assertEqual(fit(3, 5, 1), [2, 2, 1, 0, 1])
        self.assertEqual(fit(3, 6, 1), [2, 1, 1, 1, 1])

    def test_a_height_left_below_0(self):
        # Behind one upright row 2 - 102 is left.
        self.assertEqual(fit(10, 2, 100), [1, 1, 1, 0, 1])
        self.assertEqual(fit(10, 2, 1000000000), [1, 1, 1, 0, 1])

    def test_the_greatest(self):
        far = 1000000000
        # One of either, 1 high and 999999999 wide.
        self.assertEqual(ask([BOARD, far - 1, 1, 0], [FIT, far, far, far])[1:], [[1, 0, 1, 1, 1]])
        # 1000 rows of 10 upright ones of 100000000 by 1000000, or 10 rows of 1000 turned ones.
        self.assertEqual(ask([BOARD, 100000000, 1000000, 0], [FIT, far, far, 0])[1:], [[10000, 0, 10, 10, 1000]])

    def test_1000_rows_and_1001(self):
        self.assertEqual(fit(3, 2000, 0), [1000, 1000, 1, 0, 1])
        self.assertEqual(fit(3, 2002, 0), [-2])
        # With gaps of 3, 1001 rows need 2 and 1000 times 5. Behind 996 rows 21 are left, in which
        # there are 4 turned ones (3 and 3 times 6); behind 995 rows there are 4 in 26 as well.
        self.assertEqual(fit(3, 5001, 3), [1000, 996, 1, 4, 1])
        self.assertEqual(fit(3, 5002, 3), [-2])
        self.assertEqual(fit(1000000000, 1000000000, 0), [-2])

    def test_only_the_rows_are_limited(self):
        # 1 row of 333333333 upright ones; turned there is none.
        self.assertEqual(fit(1000000000, 2, 0), [333333333, 1, 333333333, 0, 500000000])

    def test_turned_rows_are_not_limited(self):
        # A board of 1 by 1000: 1 upright row of 1500, or 1500 turned rows of 1, or, above the
        # upright row, 500 turned ones.
        self.assertEqual(ask([BOARD, 1, 1000, 0], [FIT, 1500, 1500, 0])[1:], [[2000, 1, 1500, 500, 1]])

    def test_least_and_greatest(self):
        far = 1000000000
        self.assertEqual(fit(1, 2, 0), [0, 0, 0, 0, 0])
        self.assertEqual(fit(far, 1, 0), [0, 0, 333333333, 0, 500000000])
        self.assertEqual(fit(1, far, far), [0, 0, 0, 1, 0])
        # 1000 upright rows need 1000000 each but the last, 1000 turned ones 1000001: there is room for both.
        self.assertEqual(fit(3, far, 999998), [1000, 0, 1, 1000, 1])

    def test_one_beyond_each_and_far_beyond(self):
        for size in (0, -1, 1000000001, FAR, -FAR):
            self.assertEqual(fit(size, 7, 0), [-1])
            self.assertEqual(fit(7, size, 0), [-1])
        for gap in (-1, -2, -3, 1000000001, FAR, -FAR):
            self.assertEqual(fit(7, 7, gap), [-1])

    def test_which_refusal_is_told_first(self):
        # 1001 rows and more, and something out of range.
        self.assertEqual(fit(0, 2002, 0), [-1])
        self.assertEqual(fit(1000000001, 2002, 0), [-1])
        self.assertEqual(fit(7, 1000000001, 0), [-1])
        self.assertEqual(fit(7, 2002, -1), [-1])

    def test_it_sees_the_board_and_neither_holes_nor_panel(self):
        self.assertEqual(ask(SMALL, [HOLE, 1, 1, 1], [PANEL, 16, 16, 100, 100, 1], [FIT, 7, 7, 0], [BOARD, 2, 3, 0],
                             [FIT, 7, 7, 0])[3:], [[7, 2, 2, 1, 3], [0], [7, 1, 3, 2, 2]])

    def test_it_changes_nothing(self):
        kept = [[BOARD, 3, 2, 5], *drilled((1, 1, 1), (2, 2, 2)), set_to(1, 0), [PANEL, 2, 2, 4, 4, 1]]
        probes = (*SEEN, [PANELHOLES])
        for numbers in ((7, 7, 0), (0, 0, 0), (3, 2002, 0)):
            self.assertEqual(ask(*kept, [FIT, *numbers], *probes)[6:], ask(*kept, *probes)[5:])


if __name__ == "__main__":
    unittest.main()
