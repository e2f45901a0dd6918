"""tree and walk: calls 12 and 13."""

import unittest

from support import (BOARD, DROP, HOLE, LENGTH, NEAREST, ORDER, SEEN, TREE, WALK, answers_within, ask, ask_last,
                     drilled, joined, load_of, on_a_line, set_to)

# From home (4, 0) is put in, 4 away; then (7, 3), 3 from it; then (10, 0), 3
# from (7, 3) and 6 from (4, 0); then (20, 0), 10 from (10, 0).
BRANCH = drilled((10, 0, 1), (4, 0, 1), (7, 3, 1), (20, 0, 1))

# All ways of 10: (20, 0) hangs on (10, 0), the others on home, as it has the least number.
BUSH = drilled((10, 0, 1), (0, 10, 1), (20, 0, 1), (10, 10, 1))


class TreeCall(unittest.TestCase):
    def test_no_hole(self):
        self.assertEqual(ask([TREE]), [[0]])

    def test_one_hole(self):
        self.assertEqual(ask_last([HOLE, 3, 4, 5], [TREE]), [4, 0])

    def test_a_hole_at_home(self):
        self.assertEqual(ask_last([HOLE, 0, 0, 5], [TREE]), [0, 0])

    def test_home_comes_before_a_hole_at_its_point(self):
        self.assertEqual(ask_last(*drilled((0, 0, 5), (3, 0, 5)), [TREE]), [3, 0, 0])
        self.assertEqual(ask_last(*drilled((3, 0, 5), (0, 0, 5)), [TREE]), [3, 0, 0])

    def test_each_to_the_nearest_in_the_tree(self):
        self.assertEqual(ask_last(*BRANCH, [TREE]), [3 + 4 + 3 + 10, 3, 0, 2, 1])

    def test_several_on_one(self):
        self.assertEqual(ask_last(*BUSH, [TREE]), [40, 0, 0, 1, 0])

    def test_of_equals_the_least_is_put_in(self):
        # Both are 5 from home and 1 from each other: the second hangs on the first.
        self.assertEqual(ask_last(*drilled((5, 0, 1), (5, 1, 1)), [TREE]), [6, 0, 1])
        self.assertEqual(ask_last(*drilled((5, 1, 1), (5, 0, 1)), [TREE]), [6, 0, 1])

    def test_of_equals_the_least_is_put_in_whatever_it_hangs_on(self):
        # (3, 0) is put in. Then (8, 2) is 5 from it and (3, 5) 5 from home: hole 0 is put in, and
        # hangs on (3, 0). Had (3, 5) come first, it were 5 from (8, 2) and the lesser number.
        self.assertEqual(ask_last(*drilled((8, 2, 1), (3, 5, 1), (3, 0, 1)), [TREE]), [5 + 5 + 3, 3, 0, 0])

    def test_of_equals_the_least_parent_though_it_came_later(self):
        # (3, 0) is put in, 3 from home; then (3, 5), 5 from home and from (3, 0);
        # (9, 2) is 6 from both, and 9 from home.
        self.assertEqual(ask_last(*drilled((3, 5, 1), (3, 0, 1), (9, 2, 1)), [TREE]), [14, 0, 0, 1])

    def test_of_equals_the_least_parent_that_came_first(self):
        self.assertEqual(ask_last(*drilled((3, 0, 1), (3, 5, 1), (9, 2, 1)), [TREE]), [14, 0, 0, 1])

    def test_a_later_one_that_is_nearer(self):
        # (5, 0) is put in, and (9, 3) is 4 from it; then (8, 0), 3 away, and (9, 3) is 3 from that.
        self.assertEqual(ask_last(*drilled((8, 0, 1), (5, 0, 1), (9, 3, 1)), [TREE]), [3 + 5 + 3, 2, 0, 1])

    def test_changes_cost_nothing_here(self):
        holes = drilled((10, 0, 4), (4, 0, 3), (7, 3, 2), (20, 0, 1))
        self.assertEqual(ask_last([BOARD, 20, 20, 1000], *holes, [TREE]), [20, 3, 0, 2, 1])

    def test_it_changes_nothing(self):
        kept = [[BOARD, 30, 30, 5], *BRANCH, set_to(3, 1, 0, 2)]
        self.assertEqual(ask(*kept, [TREE], *SEEN)[7:], ask(*kept, *SEEN)[6:])

    def test_it_does_not_hang_on_the_kept_order(self):
        for kept in ((0, 1, 2, 3), (3, 2, 1, 0), (2, 0, 3, 1)):
            self.assertEqual(ask_last(*BRANCH, set_to(*kept), [TREE]), [20, 3, 0, 2, 1])

    def test_a_chain_of_48(self):
        self.assertEqual(ask_last(*on_a_line(*range(1, 49)), [TREE]), [48, *range(48)])
        self.assertEqual(ask_last(*on_a_line(*range(48, 0, -1)), [TREE]), [48, *range(2, 49), 0])

    def test_the_greatest_ways(self):
        far = 999999999
        self.assertEqual(ask_last([BOARD, far, far, 0], *drilled((far, 0, 1), (0, far, 1), (far, far, 1)), [TREE]),
                         [3 * far, 0, 0, 0])

    def test_behind_a_drop_and_a_hole(self):
        # Without (7, 3) hole 0 hangs on (4, 0), 6 away; then a hole at (4, 6), 6 from (4, 0),
        # from (10, 0) and from home.
        self.assertEqual(ask(*BRANCH, [DROP, 2], [TREE], [HOLE, 4, 6, 9], [TREE])[4:],
                         [[3], [6 + 4 + 10, 2, 0, 1], [3], [26, 2, 0, 1, 0]])


class WalkCall(unittest.TestCase):
    def test_no_hole(self):
        self.assertEqual(ask([WALK], [ORDER]), [[0], [0]])

    def test_one_hole(self):
        self.assertEqual(ask([HOLE, 3, 4, 5], [WALK], [ORDER])[1:], [[8], [1, 0]])

    def test_a_hole_at_home(self):
        self.assertEqual(ask(*drilled((3, 0, 5), (0, 0, 5)), [WALK], [ORDER])[2:], [[3 + 3], [2, 0, 1]])

    def test_each_before_its_children(self):
        self.assertEqual(ask(*BRANCH, [WALK], [ORDER], [LENGTH])[4:], [[4 + 3 + 3 + 10 + 20], [4, 1, 2, 0, 3], [40, 0]])

    def test_all_behind_a_child_before_the_next_child(self):
        self.assertEqual(ask(*BUSH, [WALK], [ORDER])[4:], [[10 + 10 + 20 + 10 + 10], [4, 0, 2, 1, 3]])

    def test_children_by_their_numbers_not_as_they_were_put_in(self):
        # (0, 3) is put in first; (9, 0) is 9 from it and from home.
        self.assertEqual(ask(*drilled((9, 0, 1), (0, 3, 1)), [TREE], [WALK], [ORDER])[2:],
                         [[12, 0, 0], [9 + 9 + 3], [2, 0, 1]])

    def test_children_of_a_hole_by_their_numbers(self):
        # Hole 2 is put in, 10 from home; then hole 1, 3 away; then hole 4, 3 from hole 1; then hole 3,
        # 4 from hole 2 and from hole 1, which has the lesser number; then hole 0, 5 from both.
        holes = drilled((15, 10, 1), (10, 13, 1), (10, 10, 1), (6, 14, 1), (13, 16, 1))
        self.assertEqual(ask(*holes, [TREE], [WALK], [ORDER])[5:],
                         [[5 + 3 + 10 + 4 + 3, 2, 3, 0, 2, 2], [10 + 3 + 5 + 9 + 7 + 16], [5, 2, 1, 0, 3, 4]])

    def test_the_changes_are_in_the_length(self):
        holes = drilled((10, 0, 4), (4, 0, 3), (7, 3, 3), (20, 0, 4))
        self.assertEqual(ask([BOARD, 20, 20, 1000], *holes, [WALK], [LENGTH], [ORDER])[5:],
                         [[1040], [1040, 1], [4, 1, 2, 0, 3]])

    def test_it_does_not_hang_on_the_kept_order(self):
        for kept in ((0, 1, 2, 3), (3, 2, 1, 0), (2, 0, 3, 1)):
            self.assertEqual(ask_last(*BUSH, set_to(*kept), [WALK], [ORDER]), [4, 0, 2, 1, 3])

    def test_the_next_calls_see_it(self):
        # Left at last are (10, 0), (20, 0), (10, 10), (1, 1): on home hangs (1, 1), on this the
        # first and the third, 9 away both, and the second on the first, 10 away.
        answered = ask(*BUSH, [WALK], [HOLE, 1, 1, 1], [ORDER], [DROP, 1], [ORDER], [NEAREST], [TREE], [WALK], [ORDER])
        self.assertEqual(answered[5:], [[4], [5, 0, 2, 1, 3, 4], [4], [4, 0, 1, 2, 3], [1 + 9 + 10 + 10 + 10],
                                        [29, 4, 1, 4, 0], [1 + 9 + 10 + 10 + 10], [4, 3, 0, 1, 2]])

    def test_behind_a_load(self):
        self.assertEqual(ask(load_of(["tool 1", "at 9 0", "at 0 3"]), [TREE], [WALK], [ORDER]),
                         [[2], [12, 0, 0], [21], [2, 0, 1]])

    def test_a_chain_of_48(self):
        self.assertEqual(ask(*on_a_line(*range(1, 49)), [WALK], [ORDER])[48:], [[96], [48, *range(48)]])
        self.assertEqual(ask(*on_a_line(*range(48, 0, -1)), [WALK], [ORDER])[48:], [[96], [48, *range(47, -1, -1)]])

    def test_a_chain_needs_no_deep_calls(self):
        calls = joined([*on_a_line(*range(1, 49)), [TREE], [WALK]])
        self.assertEqual(answers_within(calls, 30)[96:], [49, 48, *range(48), 1, 96])


if __name__ == "__main__":
    unittest.main()
