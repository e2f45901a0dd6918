"""answers(calls): what is handed in and given back, and many calls on one list."""

import contextlib
import io
import unittest

from drillrounds.board import answers
from support import (BEST, BOARD, DROP, FAR, FIND, FIT, GROUPED, HOLE, HOLES, IMPROVE, LENGTH, NEAREST, ORDER, PANEL,
                     PANELHOLES, PANELPROGRAM, PROGRAM, TOOLS, TREE, WALK, answers_within, ask, check_of, joined,
                     load_of, on_a_line, plain_answers, run_of, set_to, spelled)

# Worked out by hand, call by call.
TOLD = (
    ([LENGTH], [0, 0]),
    ([BOARD, 50, 40, 6], [0]),
    ([HOLE, 10, 0, 4], [0]),
    ([HOLE, 0, 8, 2], [1]),
    ([HOLE, 10, 8, 4], [2]),
    ([HOLE, 10, 8, 5], [-2]),
    ([LENGTH], [10 + (10 + 6) + (10 + 6) + 10, 2]),
    ([NEAREST], [8 + (10 + 6) + 8 + 10]),
    ([ORDER], [3, 1, 0, 2]),
    ([GROUPED], [8 + (10 + 6) + 8 + 10]),
    ([IMPROVE, 5], [0, 42]),
    ([BEST], [42, 0, 2, 1]),
    (set_to(0, 2, 1), [10 + 8 + (10 + 6) + 8]),
    ([HOLE, 4, 4, 2], [3]),
    ([ORDER], [4, 0, 2, 1, 3]),
    ([TOOLS], [2, 2, 2, 4, 2]),
    ([LENGTH], [10 + 8 + 16 + 4 + 4, 1]),
    (set_to(0, 2, 1), [-1]),
    ([DROP, 4], [-1]),
    ([DROP, 0], [3]),
    ([HOLES], [3, 0, 8, 2, 10, 8, 4, 4, 4, 2]),
    ([ORDER], [3, 1, 0, 2]),
    ([LENGTH], [10 + 16 + 4 + 4, 1]),
    ([NEAREST], [4 + 4 + 16 + 10]),
    ([ORDER], [3, 2, 0, 1]),
    ([IMPROVE, 101], [-1]),
    ([BOARD, 0, 1, 1], [-1]),
    ([BEST], [34, 0, 2, 1]),
    ([BOARD, 1, 1, 1], [0]),
    ([HOLES], [0]),
    ([BEST], [0]),
)


PANEL_PROGRAM = ["tool 2", "to 4 0", "rep 1", "rep 2", "here", "by 0 4", "go 21 -4", "end", "go -42 11", "end",
                 "tool 3", "to 9 3", "rep 1", "rep 2", "here", "go 21 0", "end", "go -42 11", "end"]
ROUND_PROGRAM = ["tool 2", "at 4 0", "tool 3", "by 5 3", "tool 2", "by -5 1"]

# The calls 12 to 22 among the others; by hand as well.
TOLD_FURTHER = (
    ([TREE], [0]),
    ([PROGRAM], [7, 116, 111, 111, 108, 32, 49, 10]),
    ([BOARD, 20, 10, 6], [0]),
    (load_of(["tool 2", "at 4 0", "by 0 4", "tool 3", "at 9 3"]), [3]),
    ([LENGTH], [4 + 4 + (5 + 6) + 9, 1]),
    ([TREE], [4 + 4 + 5, 0, 0, 1]),
    ([WALK], [4 + (5 + 6) + (5 + 6) + 4]),
    ([ORDER], [3, 0, 2, 1]),
    ([PANEL, 2, 2, 21, 11, 1], [0]),
    ([PANELHOLES], [12, 4, 0, 2, 4, 4, 2, 9, 3, 3, 37, 10, 2, 37, 6, 2, 32, 7, 3,
                    16, 21, 2, 16, 17, 2, 11, 18, 3, 25, 11, 2, 25, 15, 2, 30, 14, 3]),
    ([FIND, 32, 7], [1, 1, 0, 2]),
    ([FIND, 30, 3], [0]),
    ([PANELPROGRAM], [-2]),
    ([PANEL, 2, 1, 21, 11, 0], [0]),
    ([FIND, 30, 3], [1, 1, 0, 2]),
    ([PANELPROGRAM], spelled(PANEL_PROGRAM)),
    (check_of(PANEL_PROGRAM), [0, 0]),
    ([PROGRAM], spelled(ROUND_PROGRAM)),
    (check_of(ROUND_PROGRAM), [3, 0]),
    (run_of(["tool 1", "rep 2", "by 1 -1", "end"]), [2, 1, -1, 1, 2, -2, 1]),
    (load_of(["tool 1", "rep 2", "by 1 -1", "end"]), [-1]),
    (run_of(["tool 1", "rep 2", "by 1 -1"]), [-104]),
    ([DROP, 1], [2]),
    ([HOLES], [2, 4, 0, 2, 9, 3, 3]),
    (check_of(ROUND_PROGRAM), [2, 1]),
    ([NEAREST], [4 + (5 + 6) + 9]),
    # 4 turned ones in a row, or 2 rows of 2 upright ones.
    ([FIT, 50, 25, 1], [4, 0, 2, 1, 4]),
    ([HOLE, 4, 0, 9], [-2]),
    ([HOLE, 20, 10, 2], [2]),
    ([GROUPED], [4 + 16 + (11 + 6) + 9]),
    ([ORDER], [3, 0, 2, 1]),
    ([PANEL, 16, 16, 21, 11, 0], [-4]),
    ([PANEL, 16, 16, 62500001, 11, 0], [-2]),
    ([FIND, 41, 10], [1, 1, 0, 2]),
    # 2 0 1 is 56, 1 2 0 is 46, 0 1 2 and 2 1 0 are 52, 1 0 2 is 56.
    ([IMPROVE, 100], [0, 46]),
    (load_of(""), [-101]),
    ([TOOLS], [2, 2, 2, 3, 1]),
    (load_of(["tool 5"]), [0]),
    ([PANELHOLES], [0]),
    ([TREE], [0]),
    ([WALK], [0]),
    ([BEST], [0]),
    ([BOARD, 1, 1, 1], [0]),
    ([HOLE, 1, 1, 1], [0]),
    ([PANELPROGRAM], spelled(["tool 1", "to 1 1", "rep 1", "rep 1", "here", "go 2 0", "end", "go -2 2", "end"])),
)

LISTS = (TOLD, TOLD_FURTHER)


def calls_of(told_list):
    return [call for call, told in told_list]


def tolds_of(told_list):
    return [told for call, told in told_list]


class Unchanging(list):
    """A list that tells when it is changed, for a while only, too."""

    def refuse(self, *given, **named):
        raise AssertionError("the list that was handed in is changed")

    append = clear = extend = insert = pop = remove = reverse = sort = refuse
    __setitem__ = __delitem__ = __iadd__ = __imul__ = refuse


class WhatIsGivenBack(unittest.TestCase):
    def test_many_calls_on_one_list(self):
        for told_list in LISTS:
            for (call, told), answered in zip(told_list, ask(*calls_of(told_list)), strict=True):
                self.assertEqual(answered, told, call)

    def test_one_list_behind_the_other(self):
        # The first call of the second list would see the hole-less board of 1 by 1, so a new one comes first.
        new = [BOARD, 1000, 1000, 0]
        self.assertEqual(ask(*calls_of(TOLD), new, *calls_of(TOLD_FURTHER)),
                         [*tolds_of(TOLD), [0], *tolds_of(TOLD_FURTHER)])
        self.assertEqual(ask(*calls_of(TOLD_FURTHER), new, *calls_of(TOLD)),
                         [*tolds_of(TOLD_FURTHER), [0], *tolds_of(TOLD)])

    def test_the_slow_program_answers_the_same(self):
        for told_list in LISTS:
            self.assertEqual(plain_answers(calls_of(told_list)), tolds_of(told_list))

    def test_the_very_list(self):
        self.assertEqual(answers([0, 9, 9, 5, 1, 3, 4, 2, 1, 3, 4, 1, 5, 6, 1, 0, 6, 0, 7, 3, 4]),
                         [1, 0, 1, 0, 1, -2, 2, 1, 0, 1, 8, 1, -1, 2, 8, 0, 4, 1, 3, 4, 2, 3, 1, 2, 1])

    def test_the_very_list_of_the_further_calls(self):
        # "tool 2", a line feed, "at 3 4".
        text = [116, 111, 111, 108, 32, 50, 10, 97, 116, 32, 51, 32, 52]
        self.assertEqual(answers([22, 13, *text, 12, 13, 14, 1, 2, 1001, 1002, 0, 15, 16, 3, 1006, 17, 1, 1, 0, 18,
                                  20, 13, *text, 21, 13, *text, 20, 0, 22, 0, 14, 1, 1, 1001, 1001, 1, 19]),
                         [1, 1, 2, 4, 0, 1, 8, 1, 0, 7, 2, 3, 4, 2, 3, 1006, 2, 4, 1, 0, 1, 0, 5, 0, 0, 0, 0, 0,
                          15, 14, *text, 10, 4, 1, 3, 4, 2, 2, 1, 0, 1, -101, 1, -101, 1, 0, 1, -2])

    def test_one_call(self):
        self.assertEqual(answers([3]), [1, 0])
        self.assertEqual(answers([12]), [1, 0])
        self.assertEqual(answers([20, 0]), [1, -101])
        self.assertEqual(answers([7]), [2, 0, 0])

    def test_kinds(self):
        for told_list in LISTS:
            answered = answers(joined(calls_of(told_list)))
            self.assertIs(type(answered), list)
            self.assertEqual({type(number) for number in answered}, {int})


class WhatIsHandedIn(unittest.TestCase):
    def test_it_is_not_changed_not_for_a_while_either(self):
        for told_list in LISTS:
            calls = joined(calls_of(told_list))
            handed = Unchanging(calls)
            self.assertEqual(answers(handed), joined([[len(told), *told] for told in tolds_of(told_list)]))
            self.assertEqual(list(handed), calls)

    def test_an_order_that_is_set_is_not_the_list_itself(self):
        calls = joined([*on_a_line(1, 2, 3), set_to(2, 0, 1), [DROP, 0], [HOLE, 9, 9, 9], [IMPROVE, 9]])
        before = list(calls)
        answers(calls)
        self.assertEqual(calls, before)

    def test_what_is_given_back_is_new_each_time(self):
        first = answers([1, 1, 1, 1, 5])
        first.append(7)
        self.assertEqual(answers([1, 1, 1, 1, 5]), [1, 0, 2, 1, 0])

    def test_the_same_twice(self):
        for told_list in LISTS:
            calls = joined(calls_of(told_list))
            first = answers(calls)
            self.assertEqual(answers(calls), first)
            self.assertEqual(answers(list(calls)), first)

    def test_neither_panel_nor_head_is_kept(self):
        answers(joined([[HOLE, 5, 5, 5], [PANEL, 2, 2, 1500, 1500, 1], run_of(["tool 9", "at 3 3"])]))
        self.assertEqual(ask([HOLE, 5, 5, 5], [PANELHOLES], run_of(["tool 1", "here"]), [PANELPROGRAM]),
                         [[0], [1, 5, 5, 5], [1, 0, 0, 1],
                          spelled(["tool 5", "to 5 5", "rep 1", "rep 1", "here", "go 1001 0", "end", "go -1001 1001",
                                   "end"])])
        self.assertEqual(ask(run_of("here")), [[-101]])

    def test_nothing_is_kept(self):
        calls = joined([call for call, told in TOLD])
        first = answers(calls)
        self.assertEqual(answers([3, 5, 7]), [1, 0, 1, 0, 2, 0, 0])
        answers([0, 1, 1, 1000000000, 1, 1, 1, 1])
        self.assertEqual(answers([1, 1000, 1000, 1, 1, 1001, 0, 1]), [1, 0, 1, -1])
        self.assertEqual(answers(calls), first)

    def test_numbers_as_far_as_may_be(self):
        for far in (FAR, -FAR):
            self.assertEqual(ask([BOARD, far, far, far], [HOLE, far, far, far], [DROP, far], set_to(far),
                                 set_to(*[far] * 100), [IMPROVE, far]), [[-1]] * 6)
            self.assertEqual(ask([PANEL, far, far, far, far, far], [FIT, far, far, far], [FIND, far, far]),
                             [[-1], [-1], [0]])

    def test_nothing_is_printed(self):
        out = io.StringIO()
        with contextlib.redirect_stdout(out), contextlib.redirect_stderr(out):
            for told_list in LISTS:
                answers(joined(calls_of(told_list)))
        self.assertEqual(out.getvalue(), "")


class Long(unittest.TestCase):
    def test_200_calls(self):
        self.assertEqual(answers([7] * 200), [2, 0, 0] * 200)
        self.assertEqual(answers([12, 13] * 100), [1, 0] * 200)

    def test_200_calls_that_are_slow(self):
        # Each is done in far less than a second on 48 holes; together they must be done soon, too.
        full = load_of(["tool 1", *[f"at {k * 37 % 97} {k * 53 % 89}" for k in range(48)]])
        answered = ask(full, *[[TREE], [WALK]] * 90)
        self.assertEqual(len(answered), 181)
        self.assertEqual(answered[1::2], [answered[1]] * 90)

    def test_the_longest_text(self):
        text = "tool 1\nhere\n" + "#" * 16888
        self.assertEqual(ask(run_of(text), check_of("tool 1")), [[1, 0, 0, 1], [0, 0]])
        self.assertEqual(ask(load_of(text), check_of("tool 1\nhere")), [[1], [0, 0]])

    def test_long_lists_need_no_deep_calls(self):
        calls = joined([*on_a_line(*range(1, 49)), *[set_to(*range(100))] * 147, [NEAREST], [GROUPED],
                        set_to(*range(48)), [IMPROVE, 100], [HOLES]])
        self.assertLessEqual(len(calls), 17000)
        answered = answers_within(calls, 40)
        self.assertEqual(answered[96:96 + 294], [1, -1] * 147)
        self.assertEqual(answered[390:399], [1, 96, 1, 96, 1, 96, 2, 0, 96])


if __name__ == "__main__":
    unittest.main()
