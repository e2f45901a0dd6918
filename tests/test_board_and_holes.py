"""board, hole, drop, holes, tools: calls 0 to 4."""

import unittest

from support import (BEST, BOARD, DROP, FAR, HOLE, HOLES, IMPROVE, LENGTH, NEAREST, ORDER, SEEN, TOOLS,
                     ask, ask_last, drilled, on_a_line, set_to)


class BoardCall(unittest.TestCase):
    def test_answers_0(self):
        self.assertEqual(ask([BOARD, 10, 20, 5]), [[0]])

    def test_least_and_greatest(self):
        for w in (1, 999999999):
            for h in (1, 999999999):
                for c in (0, 1000000000):
                    self.assertEqual(ask([BOARD, w, h, c]), [[0]])

    def test_one_beyond_each_and_far_beyond(self):
        for w in (0, -1, 1000000000, FAR, -FAR):
            self.assertEqual(ask([BOARD, w, 5, 5]), [[-1]])
        for h in (0, -1, 1000000000, FAR, -FAR):
            self.assertEqual(ask([BOARD, 5, h, 5]), [[-1]])
        for c in (-1, 1000000001, FAR, -FAR):
            self.assertEqual(ask([BOARD, 5, 5, c]), [[-1]])

    def test_all_wrong_is_one_refusal(self):
        self.assertEqual(ask([BOARD, 0, 0, -1]), [[-1]])

    def test_makes_all_new(self):
        answered = ask([BOARD, 10, 10, 3], *drilled((1, 1, 1), (2, 2, 2)), set_to(1, 0),
                       [BOARD, 4, 5, 7], *SEEN,
                       [HOLE, 5, 0, 1], [HOLE, 0, 6, 1], [HOLE, 4, 5, 1], [HOLE, 1, 1, 2], [ORDER], [LENGTH])
        self.assertEqual(answered[4:9], [[0], [0], [0], [0], [0, 0]])
        # Home to (4, 5) is 5, on to (1, 1) 4 and the new cost 7, home 1.
        self.assertEqual(answered[9:], [[-1], [-1], [0], [1], [2, 0, 1], [17, 1]])

    def test_a_refusal_changes_nothing(self):
        before = [[BOARD, 10, 12, 3], *drilled((1, 1, 1), (2, 2, 2)), set_to(1, 0)]
        probes = [*SEEN, [HOLE, 11, 0, 1], [HOLE, 0, 13, 1], [HOLE, 10, 12, 1]]
        seen = [[2, 1, 1, 1, 2, 2, 2], [2, 1, 1, 2, 1], [2, 1, 0], [2 + 1 + 3 + 1, 1], [-1], [-1], [2]]
        for wrong in ([BOARD, 0, 5, 5], [BOARD, 5, 0, 5], [BOARD, 5, 5, -1], [BOARD, 5, 5, 1000000001]):
            answered = ask(*before, wrong, *probes)
            self.assertEqual(answered[4:], [[-1], *seen])

    def test_the_board_at_the_beginning(self):
        self.assertEqual(ask([HOLES], [ORDER], [LENGTH], [TOOLS], [HOLE, 1001, 0, 1], [HOLE, 0, 1001, 1],
                             [HOLE, 1000, 1000, 1], [HOLE, 1000, 0, 2], [LENGTH]),
                         [[0], [0], [0, 0], [0], [-1], [-1], [0], [1], [3000, 1]])


class HoleCall(unittest.TestCase):
    def test_answers_its_number_and_goes_behind_the_kept_order(self):
        self.assertEqual(ask([HOLE, 3, 4, 5], [HOLE, 4, 3, 5], set_to(1, 0), [HOLE, 9, 9, 1], [ORDER], [HOLES]),
                         [[0], [1], [4 + 1 + 4], [2], [3, 1, 0, 2], [3, 3, 4, 5, 4, 3, 5, 9, 9, 1]])

    def test_least_and_greatest(self):
        for x in (0, 30):
            for y in (0, 40):
                for d in (1, 10000000):
                    self.assertEqual(ask([BOARD, 30, 40, 0], [HOLE, x, y, d], [HOLES]),
                                     [[0], [0], [1, x, y, d]])

    def test_one_beyond_each_and_far_beyond(self):
        for x in (-1, 31, FAR, -FAR):
            self.assertEqual(ask([BOARD, 30, 40, 0], [HOLE, x, 5, 5], [HOLES], [ORDER]), [[0], [-1], [0], [0]])
        for y in (-1, 41, FAR, -FAR):
            self.assertEqual(ask([BOARD, 30, 40, 0], [HOLE, 5, y, 5], [HOLES], [ORDER]), [[0], [-1], [0], [0]])
        for d in (0, -1, 10000001, FAR, -FAR):
            self.assertEqual(ask([BOARD, 30, 40, 0], [HOLE, 5, 5, d], [HOLES], [ORDER]), [[0], [-1], [0], [0]])

    def test_the_greatest_board(self):
        self.assertEqual(ask([BOARD, 999999999, 999999999, 1000000000], [HOLE, 999999999, 0, 1],
                             [HOLE, 0, 999999999, 2], [HOLE, 1000000000, 0, 1], [LENGTH]),
                         [[0], [0], [1], [-1], [999999999 * 3 + 1000000000, 1]])

    def test_a_point_that_is_taken(self):
        self.assertEqual(ask([HOLE, 3, 4, 5], [HOLE, 3, 4, 5], [HOLE, 3, 4, 6], [HOLE, 4, 3, 5], [HOLE, 3, 5, 5],
                             [HOLES], [ORDER]),
                         [[0], [-2], [-2], [1], [2], [3, 3, 4, 5, 4, 3, 5, 3, 5, 5], [3, 0, 1, 2]])

    def test_48_holes_and_the_49th(self):
        answered = ask(*on_a_line(*range(1, 50)), [HOLES], [ORDER])
        self.assertEqual(answered[:48], [[number] for number in range(48)])
        self.assertEqual(answered[48], [-3])
        self.assertEqual(len(answered[49]), 1 + 3 * 48)
        self.assertEqual(answered[50], [48, *range(48)])

    def test_which_refusal_is_told_first(self):
        full = on_a_line(*range(1, 49))
        self.assertEqual(ask_last(*full, [HOLE, 1001, 0, 1]), [-1])
        self.assertEqual(ask_last(*full, [HOLE, 1, 0, 0]), [-1])
        self.assertEqual(ask_last(*full, [HOLE, 1, 0, 1]), [-2])
        self.assertEqual(ask_last(*full, [HOLE, 1, 1, 1]), [-3])
        self.assertEqual(ask_last([HOLE, 1, 1, 1], [HOLE, 1, 1, 0]), [-1])

    def test_a_48th_again_after_a_drop(self):
        full = on_a_line(*range(1, 49))
        self.assertEqual(ask(*full, [DROP, 0], [HOLE, 1, 0, 9], [HOLE, 0, 0, 9])[48:], [[47], [47], [-3]])


class DropCall(unittest.TestCase):
    FOUR = drilled((1, 0, 1), (2, 0, 2), (3, 0, 3), (4, 0, 4))

    def test_numbers_behind_it_are_one_less_in_the_order_too(self):
        self.assertEqual(ask(*self.FOUR, set_to(2, 0, 3, 1), [DROP, 1], [HOLES], [ORDER])[5:],
                         [[3], [3, 1, 0, 1, 3, 0, 3, 4, 0, 4], [3, 1, 0, 2]])

    def test_the_first_and_the_last(self):
        self.assertEqual(ask(*self.FOUR, set_to(2, 0, 3, 1), [DROP, 0], [HOLES], [ORDER])[5:],
                         [[3], [3, 2, 0, 2, 3, 0, 3, 4, 0, 4], [3, 1, 2, 0]])
        self.assertEqual(ask(*self.FOUR, set_to(2, 0, 3, 1), [DROP, 3], [HOLES], [ORDER])[5:],
                         [[3], [3, 1, 0, 1, 2, 0, 2, 3, 0, 3], [3, 2, 0, 1]])

    def test_down_to_none(self):
        self.assertEqual(ask(*on_a_line(1, 2), [DROP, 0], [DROP, 0], *SEEN, [DROP, 0])[2:],
                         [[1], [0], [0], [0], [0], [0, 0], [-1]])

    def test_no_such_hole(self):
        for i in (-1, -4, 4, FAR, -FAR):
            answered = ask(*self.FOUR, set_to(2, 0, 3, 1), [DROP, i], [HOLES], [ORDER])
            self.assertEqual(answered[5:], [[-1], [4, 1, 0, 1, 2, 0, 2, 3, 0, 3, 4, 0, 4], [4, 2, 0, 3, 1]])

    def test_its_point_is_free_again(self):
        self.assertEqual(ask(*self.FOUR, [DROP, 1], [HOLE, 2, 0, 9], [HOLES], [ORDER])[4:],
                         [[3], [3], [4, 1, 0, 1, 3, 0, 3, 4, 0, 4, 2, 0, 9], [4, 0, 1, 2, 3]])

    def test_other_calls_see_it(self):
        # Left are x = 1 and x = 4: 1 + 3 + 4.
        self.assertEqual(ask(*self.FOUR, [DROP, 1], [DROP, 1], [LENGTH], [TOOLS], [NEAREST], [BEST], [IMPROVE, 9])[4:],
                         [[3], [2], [8, 1], [2, 1, 1, 4, 1], [8], [8, 0, 1], [0, 8]])


class HolesAndTools(unittest.TestCase):
    def test_none(self):
        self.assertEqual(ask([HOLES], [TOOLS]), [[0], [0]])

    def test_holes_by_their_numbers_whatever_the_order(self):
        self.assertEqual(ask(*drilled((7, 8, 9), (0, 0, 1), (5, 1, 9)), set_to(2, 1, 0), [HOLES])[4:],
                         [[3, 7, 8, 9, 0, 0, 1, 5, 1, 9]])

    def test_tools_by_their_size(self):
        self.assertEqual(ask_last(*drilled((1, 0, 5), (2, 0, 100), (3, 0, 5), (4, 0, 12), (5, 0, 5)), [TOOLS]),
                         [3, 5, 3, 12, 1, 100, 1])

    def test_neither_changes_anything(self):
        self.assertEqual(ask(*on_a_line(3, 1, 2), set_to(2, 0, 1), [HOLES], [TOOLS], [ORDER])[4:],
                         [[3, 3, 0, 1, 1, 0, 1, 2, 0, 1], [1, 1, 3], [3, 2, 0, 1]])


if __name__ == "__main__":
    unittest.main()
