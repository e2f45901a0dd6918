"""program and panelprogram: calls 18 and 19."""

import unittest

from drillrounds.writing import program_lines
from support import (BOARD, DROP, HOLE, HOLES, ORDER, PANEL, PANELHOLES, PANELPROGRAM, PROGRAM, SEEN, ask, ask_last,
                     check_of, drilled, flat, load_of, on_a_line, run_of, set_to, written)


def program(*calls):
    return written(ask_last(*calls, [PROGRAM]))


def panelprogram(*calls):
    return written(ask_last(*calls, [PANELPROGRAM]))


class ProgramCall(unittest.TestCase):
    def test_no_holes(self):
        self.assertEqual(ask([PROGRAM]), [[7, 116, 111, 111, 108, 32, 49, 10]])

    def test_one_hole(self):
        self.assertEqual(ask_last([HOLE, 3, 40, 5], [PROGRAM]),
                         [15, 116, 111, 111, 108, 32, 53, 10, 97, 116, 32, 51, 32, 52, 48, 10])

    def test_a_hole_at_home(self):
        self.assertEqual(program([HOLE, 0, 0, 10000000]), ["tool 10000000", "at 0 0"])

    def test_one_difference(self):
        self.assertEqual(program(*drilled((3, 4, 5), (10, 4, 5))), ["tool 5", "at 3 4", "by 7 0"])

    def test_two_equal_differences(self):
        self.assertEqual(program(*drilled((3, 4, 5), (4, 6, 5), (5, 8, 5))), ["tool 5", "at 3 4", "run 2 1 2"])

    def test_the_way_from_home_is_no_difference(self):
        self.assertEqual(program(*drilled((1, 1, 5), (2, 2, 5))), ["tool 5", "at 1 1", "by 1 1"])
        self.assertEqual(program(*drilled((1, 1, 5), (2, 2, 5), (3, 3, 5))), ["tool 5", "at 1 1", "run 2 1 1"])

    def test_runs_of_1_2_and_3(self):
        holes = drilled(*[(x, 0, 9) for x in (0, 5, 7, 9, 10, 11, 12, 20)])
        self.assertEqual(program(*holes), ["tool 9", "at 0 0", "by 5 0", "run 2 2 0", "run 3 1 0", "by 8 0"])

    def test_both_differences_must_be_equal(self):
        self.assertEqual(program(*drilled((0, 0, 1), (1, 1, 1), (2, 3, 1), (4, 5, 1), (5, 7, 1))),
                         ["tool 1", "at 0 0", "by 1 1", "by 1 2", "by 2 2", "by 1 2"])

    def test_numbers_below_0(self):
        self.assertEqual(program(*drilled((9, 9, 1), (7, 12, 1), (5, 15, 1), (5, 3, 1), (1, 0, 1))),
                         ["tool 1", "at 9 9", "run 2 -2 3", "by 0 -12", "by -4 -3"])

    def test_a_change_of_the_diameter_amid_equal_differences(self):
        holes = drilled((0, 0, 1), (1, 0, 1), (2, 0, 1), (3, 0, 2), (4, 0, 2), (5, 0, 2), (6, 0, 1))
        self.assertEqual(program(*holes), ["tool 1", "at 0 0", "run 2 1 0", "tool 2", "run 3 1 0", "tool 1", "by 1 0"])

    def test_a_change_behind_the_first_hole(self):
        self.assertEqual(program(*drilled((0, 0, 3), (1, 2, 2), (2, 4, 2))),
                         ["tool 3", "at 0 0", "tool 2", "run 2 1 2"])

    def test_another_diameter_each_time(self):
        self.assertEqual(program(*drilled((0, 0, 3), (1, 0, 2), (2, 0, 3), (3, 0, 1))),
                         ["tool 3", "at 0 0", "tool 2", "by 1 0", "tool 3", "by 1 0", "tool 1", "by 1 0"])

    def test_in_the_kept_order(self):
        holes = drilled((0, 0, 1), (8, 0, 1), (4, 0, 1))
        self.assertEqual(program(*holes), ["tool 1", "at 0 0", "by 8 0", "by -4 0"])
        self.assertEqual(program(*holes, set_to(1, 2, 0)), ["tool 1", "at 8 0", "run 2 -4 0"])
        self.assertEqual(program(*holes, set_to(1, 2, 0), [DROP, 1]), ["tool 1", "at 4 0", "by -4 0"])

    def test_48_on_a_line(self):
        self.assertEqual(program(*on_a_line(*range(48))), ["tool 1", "at 0 0", "run 47 1 0"])

    def test_the_greatest_numbers(self):
        far = 999999999
        self.assertEqual(program([BOARD, far, far, 0], *drilled((far, 0, 1), (0, far, 1))),
                         ["tool 1", "at 999999999 0", "by -999999999 999999999"])

    def test_a_run_has_at_most_1000(self):
        # A board has no more than 48, so the lines are asked for here.
        for count, told in ((1001, ["run 1000 2 1"]), (1002, ["run 1000 2 1", "by 2 1"]),
                            (1003, ["run 1000 2 1", "run 2 2 1"]), (2002, ["run 1000 2 1", "run 1000 2 1", "by 2 1"])):
            self.assertEqual(program_lines([(2 * k, k, 7) for k in range(count)]), ["tool 7", "at 0 0", *told])

    def test_the_panel_is_not_seen(self):
        self.assertEqual(program([HOLE, 3, 4, 5], [PANEL, 2, 2, 1001, 1001, 1]), ["tool 5", "at 3 4"])

    def test_it_changes_nothing(self):
        kept = [*drilled((0, 0, 1), (8, 0, 2), (4, 0, 1)), set_to(1, 2, 0)]
        self.assertEqual(ask(*kept, [PROGRAM], *SEEN)[5:], ask(*kept, *SEEN)[4:])


# Kept order 3 1 0 4 2: of diameter 2 the holes (6, 1), (0, 5), of 7 (9, 9), (1, 2), (3, 3).
FIVE = [[BOARD, 10, 20, 0], *drilled((1, 2, 7), (6, 1, 2), (0, 5, 2), (9, 9, 7), (3, 3, 7)), set_to(3, 1, 0, 4, 2)]


class PanelProgramCall(unittest.TestCase):
    def test_no_holes(self):
        self.assertEqual(ask([PANELPROGRAM], [PANEL, 2, 3, 1001, 1001, 0], [PANELPROGRAM]),
                         [[7, 116, 111, 111, 108, 32, 49, 10], [0], [7, 116, 111, 111, 108, 32, 49, 10]])

    def test_one_hole(self):
        self.assertEqual(panelprogram([BOARD, 10, 20, 0], [HOLE, 4, 5, 6], [PANEL, 2, 3, 12, 25, 0]),
                         ["tool 6", "to 4 5", "rep 3", "rep 2", "here", "go 12 0", "end", "go -24 25", "end"])

    def test_several_diameters(self):
        self.assertEqual(panelprogram(*FIVE, [PANEL, 4, 3, 12, 25, 0]),
                         ["tool 2", "to 6 1", "rep 3", "rep 4", "here", "by -6 4", "go 18 -4", "end",
                          "go -48 25", "end",
                          "tool 7", "to 9 9", "rep 3", "rep 4", "here", "by -8 -7", "by 2 1", "go 18 6", "end",
                          "go -48 25", "end"])

    def test_the_least_diameter_first(self):
        lines = panelprogram(*drilled((1, 0, 100), (2, 0, 9), (3, 0, 10), (4, 0, 9)))
        self.assertEqual([line for line in lines if line.startswith("tool")], ["tool 9", "tool 10", "tool 100"])

    def test_no_runs_are_written(self):
        self.assertEqual(panelprogram(*on_a_line(1, 2, 3)),
                         ["tool 1", "to 1 0", "rep 1", "rep 1", "here", "by 1 0", "by 1 0", "go 999 0", "end",
                          "go -1001 1001", "end"])

    def test_numbers_that_are_0(self):
        # From (10, 5) back to (0, 5) and on by 11.
        self.assertEqual(panelprogram([BOARD, 10, 20, 0], *drilled((0, 5, 1), (10, 5, 1)), [PANEL, 1, 1, 11, 21, 0]),
                         ["tool 1", "to 0 5", "rep 1", "rep 1", "here", "by 10 0", "go 1 0", "end", "go -11 21", "end"])

    def test_the_greatest_numbers(self):
        far = 999999999
        self.assertEqual(panelprogram([BOARD, far, far, 0], *drilled((far, far, 1), (0, 0, 1))),
                         ["tool 1", "to 999999999 999999999", "rep 1", "rep 1", "here", "by -999999999 -999999999",
                          "go 1999999999 999999999", "end", "go -1000000000 1000000000", "end"])

    def test_alt_1(self):
        self.assertEqual(ask(*FIVE, [PANEL, 4, 3, 12, 25, 1], [PANELPROGRAM])[7:], [[0], [-2]])
        self.assertEqual(ask([PANEL, 1, 1, 1001, 1001, 1], [PANELPROGRAM]), [[0], [-2]])

    def test_alt_0_again(self):
        self.assertEqual(ask([PANEL, 1, 1, 1001, 1001, 1], [PANELPROGRAM], [PANEL, 1, 1, 1001, 1001, 0], [PANELPROGRAM],
                             [PANEL, 1, 1, 1001, 1001, 1], [BOARD, 5, 5, 5], [PANELPROGRAM]),
                         [[0], [-2], [0], [7, 116, 111, 111, 108, 32, 49, 10],
                          [0], [0], [7, 116, 111, 111, 108, 32, 49, 10]])

    def test_it_changes_nothing(self):
        for alt in (0, 1):
            kept = [*FIVE, [PANEL, 4, 3, 12, 25, alt]]
            probes = (*SEEN, [PANELHOLES])
            self.assertEqual(ask(*kept, [PANELPROGRAM], *probes)[9:], ask(*kept, *probes)[8:])


class WhatIsWrittenIsRun(unittest.TestCase):
    BOARDS = (
        [[BOARD, 10, 20, 0]],
        [[BOARD, 10, 20, 0], [HOLE, 10, 20, 5]],
        FIVE,
        [[BOARD, 50, 50, 0], *on_a_line(*range(8)), *drilled((3, 4, 5), (5, 4, 5), (7, 4, 5))],
        [[BOARD, 50, 50, 0], *drilled(*[(x, x * x % 47, 1 + x % 3) for x in range(10)]),
         set_to(3, 1, 4, 0, 5, 9, 2, 6, 8, 7)],
    )

    def test_the_program_drills_the_holes_in_the_kept_order(self):
        for calls in self.BOARDS:
            holes, order, text = ask(*calls, [HOLES], [ORDER], [PROGRAM])[-3:]
            points = [tuple(holes[1 + 3 * k:4 + 3 * k]) for k in order[1:]]
            ran, checked, loaded, then, again = ask(*calls, run_of(written(text)), check_of(written(text)),
                                                    load_of(written(text)), [HOLES], [PROGRAM])[-5:]
            self.assertEqual(ran, flat(points))
            self.assertEqual(checked, [0, 0])
            self.assertEqual(loaded, [len(points)])
            self.assertEqual(then, flat(points))
            self.assertEqual(again, text)

    def test_the_panels_program_drills_the_panel(self):
        for calls in self.BOARDS:
            for columns, rows in ((1, 1), (3, 2), (1, 9), (9, 1)):
                kept = [*calls, [PANEL, columns, rows, 60, 70, 0]]
                holes, text = ask(*kept, [PANELHOLES], [PANELPROGRAM])[-2:]
                ran, checked = ask(*kept, run_of(written(text)), check_of(written(text)))[-2:]
                self.assertEqual(checked, [0, 0])
                self.assertEqual(ran[0], holes[0])
                self.assertEqual(sorted(zip(ran[1::3], ran[2::3], ran[3::3])),
                                 sorted(zip(holes[1::3], holes[2::3], holes[3::3])))

    def test_a_full_panel(self):
        kept = [*drilled((3, 4, 5), (0, 1, 2)), [PANEL, 16, 16, 1001, 1001, 0]]
        text = ask_last(*kept, [PANELPROGRAM])
        self.assertEqual(ask_last(*kept, check_of(written(text))), [0, 0])

    def test_the_program_on_a_panel(self):
        # It drills the copy at home; the others are left.
        self.assertEqual(ask_last(*FIVE, [PANEL, 4, 3, 12, 25, 0], check_of(program(*FIVE))), [55, 0])


if __name__ == "__main__":
    unittest.main()
