"""run: call 20."""

import unittest

from support import (BOARD, PANEL, PANELHOLES, SEEN, answers_within, ask, ask_last, check_of, drilled, flat, load_of,
                     run_of, set_to)

HERE = (0, 0, 1)


class Running(unittest.TestCase):
    def drills(self, lines, *holes):
        self.assertEqual(ask_last(run_of(lines)), flat(holes), lines)

    def drills_many(self, lines, count):
        self.assertEqual(ask_last(run_of(lines))[0], count)

    def too_much(self, lines):
        """All three calls refuse it."""
        self.assertEqual(ask(run_of(lines), check_of(lines), load_of(lines)), [[-6]] * 3)


class EachLine(Running):
    def test_tool_alone(self):
        self.drills(["tool 1"])

    def test_here(self):
        self.drills(["tool 4", "here", "here"], (0, 0, 4), (0, 0, 4))

    def test_to(self):
        self.drills(["tool 4", "to 3 -5", "here", "to 1 2", "to 7 8", "here"], (3, -5, 4), (7, 8, 4))

    def test_go(self):
        self.drills(["tool 4", "go 3 -5", "here", "go 1 2", "go -10 0", "here"], (3, -5, 4), (-6, -3, 4))

    def test_at(self):
        self.drills(["tool 4", "at 3 -5", "at 1 2", "here"], (3, -5, 4), (1, 2, 4), (1, 2, 4))

    def test_by(self):
        self.drills(["tool 4", "by 3 -5", "by 1 2", "here"], (3, -5, 4), (4, -3, 4), (4, -3, 4))

    def test_run(self):
        self.drills(["tool 4", "to 10 10", "run 3 2 -1", "run 1 0 5", "here"],
                    (12, 9, 4), (14, 8, 4), (16, 7, 4), (16, 12, 4), (16, 12, 4))

    def test_tool(self):
        self.drills(["tool 4", "here", "tool 5", "by 1 0", "tool 6", "tool 7", "run 2 1 0", "tool 4", "at 0 9"],
                    (0, 0, 4), (1, 0, 5), (2, 0, 7), (3, 0, 7), (0, 9, 4))

    def test_all_of_them(self):
        self.drills(["tool 2", "to 5 5", "go 1 1", "here", "at 9 9", "by -1 -2", "rep 2", "run 2 1 0", "go 0 3", "end"],
                    (6, 6, 2), (9, 9, 2), (8, 7, 2), (9, 7, 2), (10, 7, 2), (11, 10, 2), (12, 10, 2))

    def test_the_head_may_go_far(self):
        far = 2000000000
        self.drills(["tool 1", f"to {far} -{far}", f"run 2 {far} -{far}"],
                    (2 * far, -2 * far, 1), (3 * far, -3 * far, 1))
        answered = ask_last(run_of(["tool 1", *[f"run 1000 {far} -{far}"] * 2, f"run 48 {far} -{far}"]))
        self.assertEqual(answered[-3:], [2048 * far, -2048 * far, 1])

    def test_the_board_is_not_seen(self):
        self.assertEqual(ask_last([BOARD, 1, 1, 0], [PANEL, 2, 2, 5, 5, 1], run_of(["tool 1", "at 50 60", "at -5 0"])),
                         [2, 50, 60, 1, -5, 0, 1])

    def test_it_changes_nothing_and_keeps_nothing(self):
        kept = [*drilled((3, 4, 5), (6, 7, 8)), set_to(1, 0), [PANEL, 2, 2, 1001, 1001, 1]]
        probes = (*SEEN, [PANELHOLES], run_of(["tool 1", "here"]))
        for lines in (["tool 9", "at 7 7"], ["what"], ["tool 1", "rep 1"], ["tool 1", *["run 1000 1 1"] * 3]):
            self.assertEqual(ask(*kept, run_of(lines), *probes)[5:], ask(*kept, *probes)[4:])


class Reps(Running):
    def test_as_often_as_told(self):
        self.drills(["tool 1", "rep 3", "by 2 1", "end", "by 5 5"], (2, 1, 1), (4, 2, 1), (6, 3, 1), (11, 8, 1))

    def test_once(self):
        self.drills(["tool 1", "rep 1", "by 2 1", "end"], (2, 1, 1))

    def test_not_at_all(self):
        self.drills(["tool 1", "rep 0", "by 2 1", "tool 2", "end", "by 1 1"], (1, 1, 1))

    def test_loops_within_one_that_is_not_done(self):
        self.drills(["tool 1", "rep 0", "rep 2", "here", "end", "rep 0", "end", "here", "end", "by 1 1"], (1, 1, 1))

    def test_0_within_a_loop(self):
        self.drills(["tool 1", "rep 2", "rep 0", "here", "end", "by 1 0", "end"], (1, 0, 1), (2, 0, 1))

    def test_0_times_at_the_very_end(self):
        self.drills(["tool 1", "here", "rep 0", "here", "end"], HERE)

    def test_without_lines(self):
        self.drills(["tool 1", "rep 5", "end", "here"], HERE)

    def test_within_one_another(self):
        self.drills(["tool 1", "rep 2", "rep 3", "by 1 0", "end", "go -3 1", "end", "here"],
                    (1, 0, 1), (2, 0, 1), (3, 0, 1), (1, 1, 1), (2, 1, 1), (3, 1, 1), (0, 2, 1))

    def test_two_within_one(self):
        self.drills(["tool 1", "rep 2", "rep 2", "by 1 0", "end", "rep 1", "by 0 1", "end", "end"],
                    (1, 0, 1), (2, 0, 1), (2, 1, 1), (3, 1, 1), (4, 1, 1), (4, 2, 1))

    def test_three_deep(self):
        self.drills(["tool 1", "rep 2", "rep 2", "rep 2", "by 1 0", "end", "go 10 0", "end", "go 100 0", "end"],
                    *[(x, 0, 1) for x in (1, 2, 13, 14, 125, 126, 137, 138)])

    def test_the_tool_stays_as_it_was_left(self):
        self.drills(["tool 1", "rep 2", "here", "tool 2", "here", "end", "here"], HERE, (0, 0, 2), (0, 0, 2), (0, 0, 2),
                    (0, 0, 2))

    def test_the_head_stays_where_it_was_left(self):
        self.drills(["tool 1", "rep 2", "at 5 5", "go 1 1", "end", "here"], (5, 5, 1), (5, 5, 1), (6, 6, 1))

    def test_8_deep(self):
        # 2 to the 8th; each loop from the innermost on is gone through twice as often as the one around it.
        self.drills_many(["tool 1", *["rep 2"] * 8, "here", *["end"] * 8], 256)

    def test_a_panel(self):
        self.drills(["tool 6", "to 4 5", "rep 2", "rep 3", "here", "go 12 0", "end", "go -36 25", "end"],
                    (4, 5, 6), (16, 5, 6), (28, 5, 6), (4, 30, 6), (16, 30, 6), (28, 30, 6))


class LinesDone(Running):
    """8192 lines may be done."""

    # 1 for tool, 1 for rep, 910 times 8 lines and an end: 8192.
    JUST = ["tool 1", "rep 910", *["go 1 0"] * 8, "end"]

    def test_a_loop(self):
        self.drills(self.JUST)

    def test_one_more(self):
        for line in ("go 0 0", "tool 1", "to 0 0", "here", "at 0 0", "by 0 0", "run 1 0 0"):
            self.too_much([*self.JUST, line])
            self.too_much(["tool 1", line, *self.JUST[1:]])
        self.too_much([*self.JUST, "rep 0", "end"])
        self.too_much([*self.JUST, "rep 1", "end"])

    def test_one_time_more(self):
        self.too_much(["tool 1", "rep 911", *["go 1 0"] * 8, "end"])

    def test_lines_that_are_passed_over_count_nothing(self):
        self.drills(["#", "", *self.JUST[:2], "# why", "   ", *self.JUST[2:], "#", ""])

    def test_lines_that_are_not_done_count_nothing(self):
        # 1, 1 for the rep 0, 1 and 1000 times 8, 1 and 94 ends, 94: 8192.
        self.drills(["tool 1", "rep 0", *["here"] * 50, "rep 1000", "here", "end", "end",
                     "rep 1000", *["go 1 0"] * 7, "end", "rep 94", "end", *["go 1 0"] * 94])
        self.too_much(["tool 1", "rep 0", *["here"] * 50, "rep 1000", "here", "end", "end",
                       "rep 1000", *["go 1 0"] * 7, "end", "rep 94", "end", *["go 1 0"] * 95])

    def test_a_rep_counts_each_time_one_comes_to_it(self):
        # 1, 1, then 90 times a rep, 89 ends of it and an end: 8192.
        self.drills(["tool 1", "rep 90", "rep 89", "end", "end"])
        self.too_much(["tool 1", "rep 90", "rep 89", "end", "end", "go 0 0"])
        self.too_much(["tool 1", "rep 90", "rep 90", "end", "end"])

    def test_a_rep_0_counts_and_its_end_does_not(self):
        # 1, then 4 times a rep and 1000 times a rep 0 and an end, then 187: 8192.
        four = ["rep 1000", "rep 0", "end", "end"] * 4
        self.drills(["tool 1", *four, *["go 0 0"] * 187])
        self.too_much(["tool 1", *four, *["go 0 0"] * 188])

    def test_a_run_counts_once(self):
        # 1, 1 and 2 times a run and an end: 6 lines. The rest is 1, 909 times 9, and 4: 8186 lines.
        rest = ["rep 909", *["go 0 0"] * 8, "end", *["go 0 0"] * 4]
        self.drills_many(["tool 1", "rep 2", "run 1000 1 0", "end", *rest], 2000)
        self.too_much(["tool 1", "rep 2", "run 1000 1 0", "end", *rest, "go 0 0"])

    def test_bodies_that_drill_nothing(self):
        self.too_much(["tool 1", "rep 1000", "rep 1000", "end", "end"])
        self.too_much(["tool 1", *["rep 1000"] * 8, *["end"] * 8])
        self.too_much(["tool 1", *["rep 1000"] * 8, "go 1 1", *["end"] * 8])
        self.too_much(["tool 1", *["rep 1000"] * 7, "rep 0", "here", *["end"] * 8])

    def test_it_is_too_much_though_less_is_drilled(self):
        self.too_much(["tool 1", "here", "rep 1000", *["go 1 0"] * 8, "end", "here"])


class HolesDrilled(Running):
    """2048 holes may be drilled."""

    def test_by_run(self):
        self.drills_many(["tool 1", "run 1000 1 0", "run 1000 1 0", "run 48 1 0"], 2048)
        self.too_much(["tool 1", "run 1000 1 0", "run 1000 1 0", "run 49 1 0"])
        self.too_much(["tool 1", "run 1000 1 0", "run 1000 1 0", "run 1000 1 0"])

    def test_by_loops(self):
        two = ["rep 1000", "here", "end"] * 2
        self.drills_many(["tool 1", *two, "rep 48", "here", "end"], 2048)
        self.too_much(["tool 1", *two, "rep 49", "here", "end"])

    def test_by_both(self):
        self.drills_many(["tool 1", "rep 2", "run 1000 1 0", "end", "rep 48", "by 1 1", "end"], 2048)
        self.too_much(["tool 1", "rep 2", "run 1000 1 0", "end", "rep 49", "by 1 1", "end"])
        self.drills_many(["tool 1", "rep 32", "run 64 1 0", "end"], 2048)
        self.too_much(["tool 1", "rep 33", "run 64 1 0", "end"])

    def test_one_more_of_each(self):
        just = ["tool 1", "run 1000 1 0", "run 1000 1 0", "run 48 1 0"]
        for line in ("here", "at 1 1", "by 1 1", "run 1 1 1"):
            self.too_much([*just, line])
        self.drills_many([*just, "go 1 1", "to 1 1", "tool 2", "rep 0", "here", "end"], 2048)

    def test_line_by_line(self):
        self.drills_many(["tool 1", *["here"] * 2048], 2048)
        self.too_much(["tool 1", *["here"] * 2049])

    def test_all_of_2048(self):
        self.assertEqual(ask_last(run_of(["tool 3", "rep 2", "run 1000 1 2", "end", "run 48 1 2"])),
                         flat([(k, 2 * k, 3) for k in range(1, 2049)]))


class LongTexts(Running):
    def test_lines_that_are_passed_over(self):
        self.drills("tool 1\n" + "\n" * 16880 + "here", HERE)
        self.drills("#\n" * 8440 + "tool 1\nhere\n", HERE)

    def test_lines_that_are_passed_over_in_loops(self):
        # 1, 1, then 1000 times a line and an end.
        self.drills_many("tool 1\nrep 1000\n" + "#\n" * 8000 + "here\nend\n", 1000)

    def test_a_long_body_that_is_not_done(self):
        self.drills("tool 1\nrep 0\n" + "here\n" * 3300 + "end\nhere\n", HERE)

    def test_no_deep_calls(self):
        for text, told in (("tool 1\n" + "here\n" * 2048, 2048), ("tool 1\n" + "rep 1\nend\n" * 1600, 0),
                           ("tool 1\n" + "rep 2\n" * 8 + "here\n" + "end\n" * 8, 256), ("\n" * 16890, -16991)):
            self.assertEqual(answers_within(run_of(text), 30)[1], told)


if __name__ == "__main__":
    unittest.main()
