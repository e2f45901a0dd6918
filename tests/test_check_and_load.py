"""check and load: calls 21 and 22."""

import unittest

from support import (BEST, BOARD, DROP, FIND, GROUPED, HOLE, HOLES, IMPROVE, LENGTH, NEAREST, ORDER, PANEL, PANELHOLES,
                     PANELPROGRAM, PROGRAM, SEEN, TOOLS, TREE, WALK, ask, ask_last, check_of, drilled, load_of,
                     on_a_line, set_to, written)

# A board of 10 by 20 with two holes; with px = 11, py = 21 and 2 columns
# there are (1, 2, 5), (10, 0, 3), (12, 2, 5), (21, 0, 3).
TWO = [[BOARD, 10, 20, 0], *drilled((1, 2, 5), (10, 0, 3))]
TWO_TWICE = [*TWO, [PANEL, 2, 1, 11, 21, 0]]
# Turned, the second copy has (20, 18, 5) and (11, 20, 3).
TWO_TURNED = [*TWO, [PANEL, 2, 1, 11, 21, 1]]


class CheckCall(unittest.TestCase):
    def checked(self, calls, lines, left, more):
        self.assertEqual(ask_last(*calls, check_of(lines)), [left, more], lines)

    def test_no_holes_on_either_side(self):
        self.checked([], ["tool 1"], 0, 0)

    def test_nothing_drilled(self):
        self.checked(TWO, ["tool 1"], 2, 0)
        self.checked(TWO_TWICE, ["tool 1"], 4, 0)

    def test_nothing_wanted(self):
        self.checked([], ["tool 1", "here", "here", "at 5 5"], 0, 3)

    def test_all_drilled_in_whatever_order(self):
        self.checked(TWO, ["tool 5", "at 1 2", "tool 3", "at 10 0"], 0, 0)
        self.checked(TWO, ["tool 3", "at 10 0", "tool 5", "at 1 2"], 0, 0)
        self.checked(TWO_TWICE, ["tool 5", "at 1 2", "by 11 0", "tool 3", "at 21 0", "by -11 0"], 0, 0)

    def test_some_drilled(self):
        self.checked(TWO_TWICE, ["tool 5", "at 1 2"], 3, 0)
        self.checked(TWO_TWICE, ["tool 5", "at 1 2", "by 11 0", "tool 3", "at 21 0"], 1, 0)

    def test_drilled_twice(self):
        self.checked(TWO, ["tool 5", "at 1 2", "here", "tool 3", "at 10 0"], 0, 1)
        self.checked(TWO, ["tool 5", "at 1 2", "here", "here"], 1, 2)

    def test_holes_that_the_panel_has_not(self):
        self.checked(TWO, ["tool 5", "at 1 2", "at 2 1", "at 2 2", "tool 3", "at 10 0"], 0, 2)
        self.checked(TWO, ["tool 5", "at -1 2", "at 1 -2"], 2, 2)
        self.checked(TWO, ["tool 5", "at 12 2"], 2, 1)

    def test_another_diameter_is_another_hole(self):
        self.checked(TWO, ["tool 3", "at 1 2", "tool 5", "at 10 0"], 2, 2)

    def test_copies_that_are_turned(self):
        self.checked(TWO_TURNED, ["tool 5", "at 1 2", "at 20 18", "tool 3", "at 10 0", "at 11 20"], 0, 0)
        self.checked(TWO_TURNED, ["tool 5", "at 1 2", "by 11 0", "tool 3", "at 21 0", "by -11 0"], 2, 2)

    def test_many(self):
        # 512 are wanted. Of the 2048 along the line the first is one of them, and so are those 1001 and
        # 2002 further on, in column 3 and row 4, and in column 6 and row 8.
        holes = [*drilled((3, 4, 5), (0, 1, 2)), [PANEL, 16, 16, 1001, 1001, 0]]
        self.checked(holes, ["tool 5", "run 1000 3 4", "run 1000 3 4", "run 48 3 4"], 509, 2045)

    def test_2048_at_one_point(self):
        self.checked([[HOLE, 0, 0, 1]], ["tool 1", *["run 1000 0 0"] * 2, "run 48 0 0"], 0, 2047)

    def test_refusals(self):
        for lines, refusal in ((["what"], -101), (["tool 1", "", "end"], -103), (["tool 1", "rep 1"], -103),
                               (["tool 1", *["run 1000 0 0"] * 3], -6)):
            self.assertEqual(ask_last(*TWO, check_of(lines)), [refusal])

    def test_it_changes_nothing(self):
        kept = [*TWO_TURNED, set_to(1, 0)]
        probes = (*SEEN, [PANELHOLES], [PROGRAM])
        for lines in (["tool 5", "at 1 2"], ["tool 1"], ["what"], ["tool 1", *["run 1000 0 0"] * 3]):
            self.assertEqual(ask(*kept, check_of(lines), *probes)[6:], ask(*kept, *probes)[5:])

    def test_it_sees_what_the_calls_before_changed(self):
        lines = ["tool 5", "at 1 2", "tool 3", "at 10 0"]
        self.assertEqual(ask(*TWO, check_of(lines), [DROP, 0], check_of(lines), [PANEL, 3, 1, 11, 21, 0],
                             check_of(lines), load_of(["tool 5", "at 1 2"]), check_of(lines), [BOARD, 9, 9, 0],
                             check_of(lines))[3:],
                         [[0, 0], [1], [0, 1], [0], [2, 1], [1], [2, 1], [0], [0, 2]])


class LoadCall(unittest.TestCase):
    def test_what_is_drilled_are_the_holes(self):
        self.assertEqual(ask(*TWO, set_to(1, 0), load_of(["tool 4", "at 3 3", "tool 2", "run 2 1 5", "at 0 0"]),
                             [HOLES], [ORDER], [TOOLS], [LENGTH])[4:],
                         [[4], [4, 3, 3, 4, 4, 8, 2, 5, 13, 2, 0, 0, 2], [4, 0, 1, 2, 3], [2, 2, 3, 4, 1],
                          [3 + 5 + 5 + 13 + 0, 1]])

    def test_no_holes(self):
        self.assertEqual(ask(*TWO, load_of(["tool 4"]), *SEEN, [HOLE, 1, 2, 9])[3:],
                         [[0], [0], [0], [0], [0, 0], [0]])

    def test_the_whole_board(self):
        self.assertEqual(ask([BOARD, 10, 20, 0], load_of(["tool 10000000", "here", "at 10 0", "at 0 20", "at 10 20"]),
                             [HOLES])[1:],
                         [[4], [4, 0, 0, 10000000, 10, 0, 10000000, 0, 20, 10000000, 10, 20, 10000000]])

    def test_the_head_may_leave_the_board_in_between(self):
        self.assertEqual(ask([BOARD, 10, 20, 0], load_of(["tool 1", "to -50 99", "go 52 -96", "here"]), [HOLES])[1:],
                         [[1], [1, 2, 3, 1]])

    def test_the_board_stays(self):
        # 10 by 20 and 7 for a change.
        self.assertEqual(ask([BOARD, 10, 20, 7], load_of(["tool 1", "here", "tool 2", "by 4 0"]), [LENGTH],
                             [HOLE, 11, 0, 1], [HOLE, 0, 21, 1], [HOLE, 10, 20, 1], [ORDER])[1:],
                         [[2], [4 + 7 + 4, 1], [-1], [-1], [2], [3, 0, 1, 2]])

    def test_not_on_the_board(self):
        for point in ("11 0", "-1 0", "0 21", "0 -1", "2000000000 0", "0 -2000000000"):
            self.assertEqual(ask_last([BOARD, 10, 20, 0], load_of(["tool 1", "at 1 1", f"at {point}", "at 2 2"])), [-1])

    def test_two_at_one_point(self):
        for lines in (["here", "here"], ["here", "at 1 1", "at 0 0"], ["here", "tool 2", "here"], ["run 2 0 0"],
                      ["here", "rep 2", "by 1 0", "by -1 0", "end"]):
            self.assertEqual(ask_last([BOARD, 10, 20, 0], load_of(["tool 1", *lines])), [-2])

    def test_a_hole_where_one_was_before(self):
        self.assertEqual(ask(*TWO, load_of(["tool 9", "at 1 2"]), [HOLES])[3:], [[1], [1, 1, 2, 9]])

    def test_48_and_49(self):
        self.assertEqual(ask(load_of(["tool 1", "run 48 1 0"]), [ORDER], load_of(["tool 1", "run 49 1 0"]), [ORDER],
                             [HOLE, 0, 0, 1]), [[48], [48, *range(48)], [-3], [48, *range(48)], [-3]])

    def test_more_than_512_in_the_panel(self):
        self.assertEqual(ask([PANEL, 16, 16, 1001, 1001, 0], load_of(["tool 1", "run 3 1 0"]),
                             load_of(["tool 1", "run 2 1 0"])), [[0], [-4], [2]])
        self.assertEqual(ask([PANEL, 11, 1, 1001, 1001, 0], load_of(["tool 1", "run 47 1 0"]),
                             load_of(["tool 1", "run 46 1 0"])), [[0], [-4], [46]])

    def test_which_refusal_is_told_first(self):
        panel = [PANEL, 11, 1, 1001, 1001, 0]
        # 49 holes, too many for the panel as well, and two at one point behind them, and one off the board.
        self.assertEqual(ask_last(panel, load_of(["tool 1", "run 49 1 0"])), [-3])
        self.assertEqual(ask_last(panel, load_of(["tool 1", "run 49 1 0", "here"])), [-2])
        self.assertEqual(ask_last(panel, load_of(["tool 1", "run 49 1 0", "here", "by 0 -1"])), [-1])
        # 48 and less: too many for the panel, and so on.
        self.assertEqual(ask_last(panel, load_of(["tool 1", "run 47 1 0"])), [-4])
        self.assertEqual(ask_last(panel, load_of(["tool 1", "run 47 1 0", "here"])), [-2])
        self.assertEqual(ask_last(panel, load_of(["tool 1", "run 47 1 0", "here", "at 0 1001"])), [-1])
        # Two at one point first, one off the board then.
        self.assertEqual(ask_last(load_of(["tool 1", "here", "here", "at -1 0"])), [-1])
        self.assertEqual(ask_last(load_of(["tool 1", "at -1 0", "at -1 0"])), [-1])
        # Too much, whatever it drills; a wrong line, however much it is.
        self.assertEqual(ask_last(panel, load_of(["tool 1", "to -9 -9", *["run 1000 0 0"] * 3])), [-6])
        self.assertEqual(ask_last(panel, load_of(["tool 1", "to -9 -9", *["run 1000 0 0"] * 3, "end"])), [-106])

    def test_a_refusal_changes_nothing(self):
        kept = [[BOARD, 60, 20, 7], *drilled((1, 2, 5), (10, 0, 3)), set_to(1, 0), [PANEL, 11, 1, 61, 21, 1]]
        probes = (*SEEN, [PANELHOLES], [PROGRAM], [TREE], [FIND, 10, 0])
        seen = ask(*kept, *probes)[5:]
        for lines, refusal in ((["what"], -101), (["tool 1", "at 2 2", "end"], -103),
                               (["tool 1", "here", "rep 1"], -104),
                               (["tool 1", "at 2 2", *["run 1000 0 0"] * 3], -6), (["tool 1", "at 2 2", "at 61 0"], -1),
                               (["tool 1", "at 2 2", "here"], -2), (["tool 1", "run 49 1 0"], -3),
                               (["tool 1", "run 48 1 0"], -4)):
            self.assertEqual(ask(*kept, load_of(lines), *probes)[5:], [[refusal], *seen], lines)

    def test_again_and_again(self):
        self.assertEqual(ask(load_of(["tool 1", "run 3 1 1"]), load_of(["tool 2", "at 9 9"]), load_of(["what"]),
                             [HOLES], load_of(["tool 1"]), [HOLES]),
                         [[3], [1], [-101], [1, 9, 9, 2], [0], [0]])


class TheCallsBehindALoad(unittest.TestCase):
    # x = 9, 3, 6, 2 of diameters 1, 1, 2, 2, in this order, on a board with 1 for a change.
    LOADED = [[BOARD, 20, 20, 1], *on_a_line(1, 2, 3, 4, 5), set_to(4, 3, 2, 1, 0),
              load_of(["tool 1", "at 9 0", "by -6 0", "tool 2", "by 3 0", "by -4 0"])]

    def behind(self, *calls):
        return ask(*self.LOADED, *calls)[8:]

    def test_what_is_there(self):
        # 9 + 6 + (3 + 1) + 4 + 2.
        self.assertEqual(self.behind(*SEEN), [[4, 9, 0, 1, 3, 0, 1, 6, 0, 2, 2, 0, 2], [2, 1, 2, 2, 2], [4, 0, 1, 2, 3],
                                              [25, 1]])

    def test_orders(self):
        self.assertEqual(self.behind(set_to(0, 1, 2), set_to(4, 3, 2, 1, 0), set_to(3, 1, 2, 0), [ORDER]),
                         [[-1], [-1], [2 + 2 + 4 + 4 + 9], [4, 3, 1, 2, 0]])

    def test_nearest(self):
        # 2, to 3 for 1 + 1, to 6 for 3 + 1, to 9 for 3 + 1, home 9.
        self.assertEqual(self.behind([NEAREST], [ORDER]), [[2 + 2 + 4 + 4 + 9], [4, 3, 1, 2, 0]])

    def test_grouped(self):
        # 3, 6 to 9; then 3 and 1 to 6, 4 to 2, home 2.
        self.assertEqual(self.behind([GROUPED], [ORDER]), [[3 + 6 + 4 + 4 + 2], [4, 1, 0, 2, 3]])

    def test_improve(self):
        # 25 as loaded. There and back is 18, and one change at least: 19; the turn of the first two leads to
        # 3 9 6 2, which is 3 + 6 + 4 + 4 + 2.
        self.assertEqual(self.behind([IMPROVE, 100], [ORDER]), [[1, 19], [4, 1, 0, 2, 3]])

    def test_best(self):
        # 19 at least. With 9 first it is 25 with one change (9 3 6 2), 22 with two (9 6 2 3), 21 with
        # three (9 6 3 2); with 3 and 9 first 3 9 6 2 is 19.
        self.assertEqual(self.behind([BEST]), [[19, 1, 0, 2, 3]])

    def test_tree_and_walk(self):
        # 2 first, 3 hangs on it, 6 on 3, 9 on 6.
        self.assertEqual(self.behind([TREE], [WALK], [ORDER]), [[9, 3, 4, 2, 0], [2 + 2 + 4 + 4 + 9], [4, 3, 1, 2, 0]])

    def test_hole_and_drop(self):
        self.assertEqual(self.behind([HOLE, 9, 0, 5], [HOLE, 9, 1, 5], [DROP, 5], [DROP, 1], [ORDER], [HOLES]),
                         [[-2], [4], [-1], [4], [4, 0, 1, 2, 3], [4, 9, 0, 1, 6, 0, 2, 2, 0, 2, 9, 1, 5]])

    def test_panel_and_programs(self):
        answered = self.behind([PANEL, 2, 1, 21, 21, 0], [PANELHOLES], [FIND, 24, 0], [PROGRAM], [PANELPROGRAM])
        self.assertEqual(answered[:3], [[0], [8, 9, 0, 1, 3, 0, 1, 6, 0, 2, 2, 0, 2,
                                              30, 0, 1, 24, 0, 1, 27, 0, 2, 23, 0, 2], [1, 1, 0, 1]])
        self.assertEqual(written(answered[3]), ["tool 1", "at 9 0", "by -6 0", "tool 2", "by 3 0", "by -4 0"])
        self.assertEqual(written(answered[4]),
                         ["tool 1", "to 9 0", "rep 1", "rep 2", "here", "by -6 0", "go 27 0", "end",
                          "go -42 21", "end",
                          "tool 2", "to 6 0", "rep 1", "rep 2", "here", "by -4 0", "go 25 0", "end",
                          "go -42 21", "end"])


if __name__ == "__main__":
    unittest.main()
