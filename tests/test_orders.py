"""order, set, length, nearest, grouped: calls 5 to 9."""

import unittest

from support import (BOARD, FAR, GROUPED, HOLE, LENGTH, NEAREST, ORDER, SEEN, ask, ask_last, drilled,
                     on_a_line, set_to)

# With c = 7: (3, 4) and (10, 1) of one diameter, (6, 6) of another one.
THREE = [[BOARD, 20, 20, 7], *drilled((3, 4, 2), (10, 1, 2), (6, 6, 5))]


class OrderAndLength(unittest.TestCase):
    def test_without_holes(self):
        self.assertEqual(ask([ORDER], [LENGTH]), [[0], [0, 0]])

    def test_one_hole(self):
        self.assertEqual(ask([BOARD, 9, 9, 9], [HOLE, 3, 4, 5], [ORDER], [LENGTH])[2:], [[1, 0], [8, 0]])

    def test_one_hole_at_home(self):
        self.assertEqual(ask([BOARD, 9, 9, 9], [HOLE, 0, 0, 5], [ORDER], [LENGTH])[2:], [[1, 0], [0, 0]])

    def test_as_the_holes_came(self):
        # 4 from home, 7, then 5 and a change for 7, then 6 home.
        self.assertEqual(ask(*THREE, [ORDER], [LENGTH])[4:], [[3, 0, 1, 2], [29, 1]])

    def test_each_change_is_counted(self):
        # 4, then 3 + 7, then 5 + 7, then 10 home.
        self.assertEqual(ask(*THREE, set_to(0, 2, 1), [LENGTH])[4:], [[36], [36, 2]])

    def test_the_greater_difference_is_the_way(self):
        # (0, 9) to (9, 0) is 9 in both; (0, 9) to (2, 1) is 8, in y; then 2 home, in x.
        self.assertEqual(ask(*drilled((0, 9, 1), (9, 0, 1)), [LENGTH])[2:], [[27, 0]])
        self.assertEqual(ask(*drilled((0, 9, 1), (2, 1, 1)), [LENGTH])[2:], [[19, 0]])

    def test_a_hole_at_home_has_a_diameter(self):
        # Home to (0, 0) is 0, on to (3, 0) 3 + 7, home 3.
        self.assertEqual(ask([BOARD, 9, 9, 7], *drilled((0, 0, 1), (3, 0, 2)), [LENGTH])[3:], [[13, 1]])

    def test_the_change_is_for_unlike_ones_not_for_a_greater_one(self):
        holes = drilled((1, 0, 5), (2, 0, 1), (3, 0, 5), (4, 0, 5))
        # 1 + (1 + 10) + (1 + 10) + 1 + 4.
        self.assertEqual(ask([BOARD, 9, 9, 10], *holes, [LENGTH])[5:], [[28, 2]])


class SetCall(unittest.TestCase):
    def test_answers_the_length(self):
        self.assertEqual(ask(*THREE, set_to(1, 0, 2), [ORDER])[4:], [[10 + 7 + (3 + 7) + 6], [3, 1, 0, 2]])

    def test_without_holes(self):
        self.assertEqual(ask(set_to(), [ORDER]), [[0], [0]])
        self.assertEqual(ask(set_to(0), [ORDER]), [[-1], [0]])

    def test_one_hole(self):
        self.assertEqual(ask([HOLE, 3, 4, 5], set_to(0), set_to(), set_to(1), set_to(0, 0), [ORDER])[1:],
                         [[8], [-1], [-1], [-1], [1, 0]])

    def test_no_order(self):
        wrong = ((), (0, 1), (0, 1, 2, 3), (0, 1, 2, 2), (0, 1, 1), (2, 2, 2), (0, 1, 3), (1, 2, 3), (-1, 0, 1),
                 (0, 1, -1), (-3, -2, -1), (0, 1, FAR), (0, 1, -FAR), (0, 1, 2) * 33 + (0,), tuple(range(100)))
        for numbers in wrong:
            answered = ask(*THREE, set_to(2, 0, 1), set_to(*numbers), *SEEN)
            # 6, then 3 + 7, then 7, then 10 home.
            self.assertEqual(answered[5:], [[-1], [3, 3, 4, 2, 10, 1, 2, 6, 6, 5], [2, 2, 2, 5, 1],
                                            [3, 2, 0, 1], [33, 1]])

    def test_48_holes(self):
        back = list(reversed(range(48)))
        self.assertEqual(ask(*on_a_line(*range(1, 49)), set_to(*back), [ORDER])[48:], [[96], [48, *back]])


class NearestCall(unittest.TestCase):
    def test_without_holes_and_one_hole(self):
        self.assertEqual(ask([NEAREST], [ORDER], [HOLE, 3, 4, 5], [NEAREST], [ORDER]), [[0], [0], [0], [8], [1, 0]])

    def test_from_hole_to_hole(self):
        # x = 2, then 3 (1 away), then 6 (3), then 9 (3), home 9.
        self.assertEqual(ask(*on_a_line(9, 3, 6, 2), [NEAREST], [ORDER])[4:], [[18], [4, 3, 1, 2, 0]])

    def test_a_change_counts_in_the_step(self):
        # From x = 1 the step to 3 costs 2 + 10, the one to 8 costs 7; then 5 + 10, home 3.
        holes = drilled((1, 0, 1), (3, 0, 2), (8, 0, 1))
        self.assertEqual(ask([BOARD, 9, 9, 10], *holes, [NEAREST], [ORDER])[4:], [[26], [3, 0, 2, 1]])

    def test_a_change_does_not_count_from_home(self):
        # From home the way alone: 3 to (3, 0), whatever its diameter.
        holes = drilled((4, 0, 1), (3, 0, 2))
        self.assertEqual(ask([BOARD, 9, 9, 10], *holes, [NEAREST], [ORDER])[3:], [[3 + 11 + 4], [2, 1, 0]])

    def test_of_equals_the_least_number(self):
        # All ways between these three and home are 5.
        self.assertEqual(ask(*drilled((5, 0, 1), (0, 5, 1), (5, 5, 1)), set_to(2, 1, 0), [NEAREST], [ORDER])[4:],
                         [[20], [3, 0, 1, 2]])

    def test_of_equals_on_the_way(self):
        # From (5, 0) both (7, 0) and (5, 2) are 2 away, and they are 2 from each other.
        self.assertEqual(ask_last([HOLE, 5, 0, 1], [HOLE, 7, 5, 1], [HOLE, 7, 0, 1], [HOLE, 5, 2, 1],
                                  [NEAREST], [ORDER]), [4, 0, 2, 3, 1])
        self.assertEqual(ask_last([HOLE, 5, 0, 1], [HOLE, 7, 5, 1], [HOLE, 5, 2, 1], [HOLE, 7, 0, 1],
                                  [NEAREST], [ORDER]), [4, 0, 2, 3, 1])

    def test_equal_by_the_change(self):
        # From home to (0, 0); then 5, or 2 and a change for 3.
        self.assertEqual(ask_last([BOARD, 9, 9, 3], *drilled((0, 0, 1), (5, 0, 1), (2, 0, 2)), [NEAREST], [ORDER]),
                         [3, 0, 1, 2])
        self.assertEqual(ask_last([BOARD, 9, 9, 3], *drilled((0, 0, 1), (2, 0, 2), (5, 0, 1)), [NEAREST], [ORDER]),
                         [3, 0, 1, 2])

    def test_48_holes(self):
        self.assertEqual(ask(*on_a_line(*range(48, 0, -1)), [NEAREST], [ORDER])[48:],
                         [[96], [48, *range(47, -1, -1)]])


class GroupedCall(unittest.TestCase):
    def test_without_holes_and_one_hole(self):
        self.assertEqual(ask([GROUPED], [ORDER], [HOLE, 3, 4, 5], [GROUPED], [ORDER]), [[0], [0], [0], [8], [1, 0]])

    def test_the_least_diameter_first_and_of_equals_the_least_number(self):
        # Diameter 3: (2, 0), 2 from home, then (9, 9), 9 away. From there both of
        # diameter 5 are 9 away: (10, 0), then (4, 0), 6 away; home 4.
        holes = drilled((10, 0, 5), (2, 0, 3), (9, 9, 3), (4, 0, 5))
        self.assertEqual(ask([BOARD, 20, 20, 100], *holes, [GROUPED], [ORDER], [LENGTH])[5:],
                         [[2 + 9 + 109 + 6 + 4], [4, 1, 2, 0, 3], [130, 1]])

    def test_it_goes_on_from_where_the_ones_before_ended(self):
        # Diameter 1 ends at x = 9, so of diameter 2 comes 8 first and 1 then.
        holes = drilled((1, 0, 2), (8, 0, 2), (9, 0, 1))
        self.assertEqual(ask(*holes, [GROUPED], [ORDER])[3:], [[9 + 1 + 7 + 1], [3, 2, 1, 0]])

    def test_diameters_are_told_apart_as_numbers(self):
        holes = drilled((1, 0, 10), (2, 0, 9), (3, 0, 100))
        self.assertEqual(ask_last(*holes, [GROUPED], [ORDER]), [3, 1, 0, 2])

    def test_of_equals_from_home(self):
        holes = drilled((5, 5, 1), (0, 5, 1), (5, 0, 1))
        self.assertEqual(ask_last(*holes, set_to(2, 1, 0), [GROUPED], [ORDER]), [3, 0, 1, 2])

    def test_the_change_is_in_the_length(self):
        holes = drilled((1, 0, 3), (2, 0, 2), (3, 0, 1))
        # 3, then 1 + 10 twice, then 1 home.
        self.assertEqual(ask([BOARD, 9, 9, 10], *holes, [GROUPED], [LENGTH])[4:], [[26], [26, 2]])


if __name__ == "__main__":
    unittest.main()
