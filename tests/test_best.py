"""best: call 11."""

import unittest

from support import BEST, BOARD, DROP, HOLE, ORDER, SEEN, ask, ask_last, drilled, on_a_line, set_to

SCRAMBLED = (4, 1, 7, 2, 6, 3, 5)


class BestCall(unittest.TestCase):
    def test_without_holes(self):
        self.assertEqual(ask([BEST], [ORDER]), [[0], [0]])

    def test_one_hole(self):
        self.assertEqual(ask([BOARD, 9, 9, 9], [HOLE, 3, 4, 5], [BEST])[2:], [[8, 0]])

    def test_one_hole_at_home(self):
        self.assertEqual(ask_last([HOLE, 0, 0, 5], [BEST]), [0, 0])

    def test_the_first_in_the_order_of_lists(self):
        # All ways between these three and home are 5, so all orders are 20.
        self.assertEqual(ask_last(*drilled((5, 0, 1), (0, 5, 1), (5, 5, 1)), [BEST]), [20, 0, 1, 2])

    def test_a_round_and_the_same_round_back(self):
        # 4, 1, 1 + 5, 6 and back are the shortest: 0 2 1 comes before 1 2 0.
        self.assertEqual(ask_last([BOARD, 9, 9, 5], *drilled((4, 0, 1), (6, 0, 2), (5, 0, 1)), [BEST]),
                         [17, 0, 2, 1])

    def test_a_change_may_be_dearer_than_a_way(self):
        # Diameter 1 at x = 1 and 9, diameter 2 at 2 and 8, 100 for a change. One change
        # is needed: 2 8 9 1 is 2 + 6 + 101 + 8 + 1 = 118, as short as can be, and so it
        # is back; to begin with 8, hole 0, is 130 and more.
        holes = drilled((8, 0, 2), (9, 0, 1), (2, 0, 2), (1, 0, 1))
        self.assertEqual(ask_last([BOARD, 9, 9, 100], *holes, [BEST]), [118, 2, 0, 1, 3])

    def test_7_holes(self):
        # Up and then down is 14. From x = 4 the three below it must wait until the way
        # down; of the three above it 7 has the least number, and then all is told.
        self.assertEqual(ask_last(*on_a_line(*SCRAMBLED), [BEST]), [14, 0, 2, 4, 6, 5, 3, 1])

    def test_8_holes(self):
        answered = ask(*on_a_line(*SCRAMBLED, 8), set_to(7, 6, 5, 4, 3, 2, 1, 0), [BEST], *SEEN)
        self.assertEqual(answered[9], [-3])
        self.assertEqual(answered[12], [8, 7, 6, 5, 4, 3, 2, 1, 0])
        self.assertEqual(len(answered[10]), 25)

    def test_48_holes(self):
        self.assertEqual(ask_last(*on_a_line(*range(48)), [BEST]), [-3])

    def test_8_holes_and_one_dropped(self):
        self.assertEqual(ask(*on_a_line(*SCRAMBLED, 8), [BEST], [DROP, 7], [BEST])[8:],
                         [[-3], [7], [14, 0, 2, 4, 6, 5, 3, 1]])

    def test_the_kept_order_stays(self):
        self.assertEqual(ask(*on_a_line(1, 2, 3), set_to(1, 0, 2), [BEST], [ORDER])[3:],
                         [[8], [6, 0, 1, 2], [3, 1, 0, 2]])

    def test_it_does_not_hang_on_the_kept_order(self):
        # From x = 3 it goes down over 2 to 1.
        for kept in ((0, 1, 2), (2, 1, 0), (1, 2, 0)):
            self.assertEqual(ask_last(*on_a_line(3, 1, 2), set_to(*kept), [BEST]), [6, 0, 2, 1])


if __name__ == "__main__":
    unittest.main()
