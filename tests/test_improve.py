"""improve: call 10."""

import unittest

from support import (BOARD, FAR, HOLE, IMPROVE, LENGTH, ORDER, SEEN, ask, drilled, on_a_line,
                     set_to)

# On a line, up and then down is the shortest; 1 and 3 stand in a dip each here.
# As it is: 2 + 1 + 3 + 1 + 3 + 1 + 5 = 16; each dip less saves 2; no single
# change takes both away, and the first one that takes one away turns 2 and 1.
# After it the first one that takes the other away turns 4 and 3.
TWO_DIPS = on_a_line(2, 1, 4, 3, 6, 5)


class Budget(unittest.TestCase):
    def test_none_is_made_with_budget_0(self):
        self.assertEqual(ask(*TWO_DIPS, [IMPROVE, 0], [ORDER])[6:], [[0, 16], [6, 0, 1, 2, 3, 4, 5]])

    def test_no_more_than_the_budget(self):
        self.assertEqual(ask(*TWO_DIPS, [IMPROVE, 1], [ORDER], [IMPROVE, 1], [ORDER], [IMPROVE, 1], [ORDER])[6:],
                         [[1, 14], [6, 1, 0, 2, 3, 4, 5], [1, 12], [6, 1, 0, 3, 2, 4, 5],
                          [0, 12], [6, 1, 0, 3, 2, 4, 5]])

    def test_all_at_once(self):
        for budget in (2, 3, 100):
            self.assertEqual(ask(*TWO_DIPS, [IMPROVE, budget], [ORDER], [LENGTH])[6:],
                             [[2, 12], [6, 1, 0, 3, 2, 4, 5], [12, 0]])

    def test_out_of_range(self):
        for budget in (-1, 101, FAR, -FAR):
            self.assertEqual(ask(*TWO_DIPS, [IMPROVE, budget], [ORDER])[6:], [[-1], [6, 0, 1, 2, 3, 4, 5]])

    def test_a_refusal_changes_nothing(self):
        kept = [[BOARD, 9, 9, 5], *drilled((4, 0, 1), (6, 0, 2), (5, 0, 1))]
        self.assertEqual(ask(*kept, [IMPROVE, 101], *SEEN)[5:],
                         [[3, 4, 0, 1, 6, 0, 2, 5, 0, 1], [2, 1, 2, 2, 1], [3, 0, 1, 2], [22, 2]])


class FewHoles(unittest.TestCase):
    def test_none(self):
        for budget in (0, 1, 100):
            self.assertEqual(ask([IMPROVE, budget], [ORDER]), [[0, 0], [0]])
        self.assertEqual(ask([IMPROVE, -1], [IMPROVE, 101]), [[-1], [-1]])

    def test_one(self):
        self.assertEqual(ask([HOLE, 3, 4, 5], [IMPROVE, 100], [ORDER])[1:], [[0, 8], [1, 0]])

    def test_two(self):
        # Turned round, a round is as long as before.
        self.assertEqual(ask([BOARD, 9, 9, 9], *drilled((3, 4, 5), (1, 1, 1)), [IMPROVE, 100], [ORDER])[3:],
                         [[0, 4 + 12 + 1], [2, 0, 1]])


class WhichChange(unittest.TestCase):
    def test_an_equal_one_is_no_change(self):
        # Up and down in whatever way is 6: 0 1 2, 0 2 1 and others.
        self.assertEqual(ask(*on_a_line(1, 2, 3), set_to(1, 2, 0), [IMPROVE, 100], [ORDER])[3:],
                         [[6], [0, 6], [3, 1, 2, 0]])

    def test_the_first_of_equal_turns(self):
        # From 1 0 2, which is 2 + 1 + 2 + 3 = 8, six of the nine changes lead to 6:
        # the turn of the first two comes first, to 0 1 2; the last one leads to 1 2 0.
        self.assertEqual(ask(*on_a_line(1, 2, 3), set_to(1, 0, 2), [IMPROVE, 1], [ORDER])[3:],
                         [[8], [1, 6], [3, 0, 1, 2]])

    def test_turns_before_moves(self):
        # a (4), b (6, of another diameter), c (5), and 5 for a change:
        # a b c is 4 + 7 + 6 + 5 = 22, b a c and c a b 6 + 7 + 1 + 5 = 19,
        # a c b and b c a 4 + 1 + 6 + 6 = 17. The turn of b and c leads to a c b;
        # of the moves the one of a to the end comes first, which leads to b c a.
        holes = drilled((4, 0, 1), (6, 0, 2), (5, 0, 1))
        self.assertEqual(ask([BOARD, 9, 9, 5], *holes, [IMPROVE, 1], [ORDER])[4:], [[1, 17], [3, 0, 2, 1]])

    def test_a_move_that_is_shorter_than_each_turn(self):
        # a (5, 2), b (0, 0), c (4, 2), d (5, 0): a b c d is 5 + 5 + 4 + 2 + 5 = 21.
        # Turns: bacd 13, cbad 20, dcba 21, acbd 20, adcb 13, abdc 21.
        # Moves: a to place 1 bacd 13, to 2 bcad 0 + 4 + 1 + 2 + 5 = 12, to 3 bcda 13;
        # b: bacd, acbd, acdb 13; c: cabd 20, acbd, abdc; d: dabc 20, adbc 20, abdc.
        holes = drilled((5, 2, 1), (0, 0, 1), (4, 2, 1), (5, 0, 1))
        self.assertEqual(ask(*holes, [IMPROVE, 1], [ORDER])[4:], [[1, 12], [4, 1, 2, 0, 3]])

    def test_moves_by_the_place_they_come_from(self):
        # a (5, 0), b (2, 2), c (3, 0), d (2, 4): a b c d is 5 + 3 + 2 + 4 + 4 = 18.
        # Turns: bacd 15, cbad 16, dcba 18, acbd 15, adcb 17, abdc 17.
        # Moves: a to place 2 bcad 14 comes before c to place 0 cabd 14;
        # bcda 17, acdb 15, dabc 16, adbc 16, and those that are turns too.
        holes = drilled((5, 0, 2), (2, 2, 1), (3, 0, 2), (2, 4, 2))
        self.assertEqual(ask(*holes, [IMPROVE, 1], [ORDER])[4:], [[1, 14], [4, 1, 2, 0, 3]])

    def test_turns_by_the_place_they_begin_at(self):
        # a 11, b 5, c 10, d 3, e 1; a and e of another diameter; 10 for a change:
        # a b c d e is 11 + 16 + 5 + 7 + 12 + 1 = 52.
        # Turns from a on: bacde 52, cbade 62, dcbae 3 + 7 + 5 + 16 + 10 + 1 = 42, edcba 52;
        # from b on: acbde 11 + 11 + 5 + 2 + 12 + 1 = 42, adcbe 56, aedcb 50;
        # then abdce 56, abedc 70, abced 66. The moves: bcade 52, bcdae 46, bcdea 50,
        # acdbe 46, acdeb 60, cabde 52, abdec 70, dabce 62, adbce 56,
        # eabcd 1 + 10 + 16 + 5 + 7 + 3 = 42, aebcd 50, abecd 70.
        holes = drilled((11, 0, 2), (5, 0, 1), (10, 0, 1), (3, 0, 1), (1, 0, 2))
        self.assertEqual(ask([BOARD, 20, 20, 10], *holes, [IMPROVE, 1], [ORDER])[6:], [[1, 42], [5, 3, 2, 1, 0, 4]])

    def test_the_best_not_the_first_that_is_shorter(self):
        # 4 9 7 1 8 is 4 + 5 + 2 + 6 + 7 + 8 = 32. The first shorter one turns 4 to 1:
        # 1 7 9 4 8 is 1 + 6 + 2 + 5 + 4 + 8 = 26. Only up and then down is 18, and no
        # turn makes that, nor a move of another one than 8, as a dip at 1 or 7 stays.
        # Put behind 4, it's 4 8 9 7 1: 4 + 4 + 1 + 2 + 6 + 1 = 18.
        self.assertEqual(ask(*on_a_line(4, 9, 7, 1, 8), [IMPROVE, 1], [ORDER])[5:], [[1, 18], [5, 0, 4, 1, 2, 3]])

    def test_it_starts_from_the_kept_order(self):
        self.assertEqual(ask(*TWO_DIPS, set_to(1, 0, 3, 2, 4, 5), [IMPROVE, 100], [ORDER])[6:],
                         [[12], [0, 12], [6, 1, 0, 3, 2, 4, 5]])

    def test_the_change_of_tools_counts(self):
        # 1 2 3 4 with two diameters in turn and 10 for a change is 1 + 11 + 11 + 11 + 4 = 38.
        # With one change alone: 1 3 2 4 is 1 + 2 + 11 + 2 + 4 = 20, 1 3 4 2 is 1 + 2 + 11 + 2 + 2 = 18,
        # and there and back with one change is 18 at least.
        holes = drilled((1, 0, 1), (2, 0, 2), (3, 0, 1), (4, 0, 2))
        self.assertEqual(ask([BOARD, 9, 9, 10], *holes, [IMPROVE, 100], [ORDER], [LENGTH])[5:],
                         [[1, 18], [4, 0, 2, 3, 1], [18, 1]])


class ManyHoles(unittest.TestCase):
    def test_48_on_a_line(self):
        # One dip at the front: turning the first two takes it away.
        xs = [2, 1, *range(3, 49)]
        self.assertEqual(ask(*on_a_line(*xs), [IMPROVE, 100], [ORDER])[48:],
                         [[1, 96], [48, 1, 0, *range(2, 48)]])


if __name__ == "__main__":
    unittest.main()
