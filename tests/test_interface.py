"""answers(calls): what is handed in and given back, and many calls on one list."""

import contextlib
import io
import sys
import unittest

from drillrounds.board import answers
from support import (BEST, BOARD, DROP, FAR, GROUPED, HOLE, HOLES, IMPROVE, LENGTH, NEAREST, ORDER, TOOLS,
                     ask, drilled, joined, on_a_line, plain_answers, set_to)

# Worked out by hand, call by call.
TOLD = (
    ([LENGTH], [0, 0]),
    ([BOARD, 50, 40, 6], [0]),
    ([HOLE, 10, 0, 4], [0]),
    ([HOLE, 0, 8, 2], [1]),
    ([HOLE, 10, 8, 4], [2]),
    ([HOLE, 10, 8, 5], [-2]),
    ([LENGTH], [10 + (10 + 6) + (10 + 6) + 10, 2]),
    ([NEAREST], [8 + (10 + 6) + 8 + 10]),
    ([ORDER], [3, 1, 0, 2]),
    ([GROUPED], [8 + (10 + 6) + 8 + 10]),
    ([IMPROVE, 5], [0, 42]),
    ([BEST], [42, 0, 2, 1]),
    (set_to(0, 2, 1), [10 + 8 + (10 + 6) + 8]),
    ([HOLE, 4, 4, 2], [3]),
    ([ORDER], [4, 0, 2, 1, 3]),
    ([TOOLS], [2, 2, 2, 4, 2]),
    ([LENGTH], [10 + 8 + 16 + 4 + 4, 1]),
    (set_to(0, 2, 1), [-1]),
    ([DROP, 4], [-1]),
    ([DROP, 0], [3]),
    ([HOLES], [3, 0, 8, 2, 10, 8, 4, 4, 4, 2]),
    ([ORDER], [3, 1, 0, 2]),
    ([LENGTH], [10 + 16 + 4 + 4, 1]),
    ([NEAREST], [4 + 4 + 16 + 10]),
    ([ORDER], [3, 2, 0, 1]),
    ([IMPROVE, 101], [-1]),
    ([BOARD, 0, 1, 1], [-1]),
    ([BEST], [34, 0, 2, 1]),
    ([BOARD, 1, 1, 1], [0]),
    ([HOLES], [0]),
    ([BEST], [0]),
)


class Unchanging(list):
    """A list that tells when it is changed, for a while only, too."""

    def refuse(self, *given, **named):
        raise AssertionError("the list that was handed in is changed")

    append = clear = extend = insert = pop = remove = reverse = sort = refuse
    __setitem__ = __delitem__ = __iadd__ = __imul__ = refuse


class WhatIsGivenBack(unittest.TestCase):
    def test_many_calls_on_one_list(self):
        for (call, told), answered in zip(TOLD, ask(*[call for call, told in TOLD]), strict=True):
            self.assertEqual(answered, told, call)

    def test_the_slow_program_answers_the_same(self):
        self.assertEqual(plain_answers([call for call, told in TOLD]), [told for call, told in TOLD])

    def test_the_very_list(self):
        self.assertEqual(answers([0, 9, 9, 5, 1, 3, 4, 2, 1, 3, 4, 1, 5, 6, 1, 0, 6, 0, 7, 3, 4]),
                         [1, 0, 1, 0, 1, -2, 2, 1, 0, 1, 8, 1, -1, 2, 8, 0, 4, 1, 3, 4, 2, 3, 1, 2, 1])

    def test_one_call(self):
        self.assertEqual(answers([3]), [1, 0])
        self.assertEqual(answers([7]), [2, 0, 0])

    def test_kinds(self):
        answered = answers(joined([call for call, told in TOLD]))
        self.assertIs(type(answered), list)
        self.assertEqual({type(number) for number in answered}, {int})


class WhatIsHandedIn(unittest.TestCase):
    def test_it_is_not_changed_not_for_a_while_either(self):
        calls = joined([call for call, told in TOLD])
        handed = Unchanging(calls)
        self.assertEqual(answers(handed), joined([[len(told), *told] for call, told in TOLD]))
        self.assertEqual(list(handed), calls)

    def test_an_order_that_is_set_is_not_the_list_itself(self):
        calls = joined([*on_a_line(1, 2, 3), set_to(2, 0, 1), [DROP, 0], [HOLE, 9, 9, 9], [IMPROVE, 9]])
        before = list(calls)
        answers(calls)
        self.assertEqual(calls, before)

    def test_what_is_given_back_is_new_each_time(self):
        first = answers([1, 1, 1, 1, 5])
        first.append(7)
        self.assertEqual(answers([1, 1, 1, 1, 5]), [1, 0, 2, 1, 0])

    def test_nothing_is_kept(self):
        calls = joined([call for call, told in TOLD])
        first = answers(calls)
        self.assertEqual(answers([3, 5, 7]), [1, 0, 1, 0, 2, 0, 0])
        answers([0, 1, 1, 1000000000, 1, 1, 1, 1])
        self.assertEqual(answers([1, 1000, 1000, 1, 1, 1001, 0, 1]), [1, 0, 1, -1])
        self.assertEqual(answers(calls), first)

    def test_numbers_as_far_as_may_be(self):
        for far in (FAR, -FAR):
            self.assertEqual(ask([BOARD, far, far, far], [HOLE, far, far, far], [DROP, far], set_to(far),
                                 set_to(*[far] * 100), [IMPROVE, far]), [[-1]] * 6)

    def test_nothing_is_printed(self):
        out = io.StringIO()
        with contextlib.redirect_stdout(out), contextlib.redirect_stderr(out):
            answers(joined([call for call, told in TOLD]))
        self.assertEqual(out.getvalue(), "")


class Long(unittest.TestCase):
    def test_200_calls(self):
        self.assertEqual(answers([7] * 200), [2, 0, 0] * 200)

    def test_long_lists_need_no_deep_calls(self):
        # The frames of the test runner itself stand below, so the limit is set from here.
        depth = len(list(frames()))
        calls = joined([*on_a_line(*range(1, 49)), *[set_to(*range(100))] * 147, [NEAREST], [GROUPED],
                        set_to(*range(48)), [IMPROVE, 100], [HOLES]])
        self.assertLessEqual(len(calls), 17000)
        limit = sys.getrecursionlimit()
        sys.setrecursionlimit(depth + 40)
        try:
            answered = answers(calls)
        finally:
            sys.setrecursionlimit(limit)
        self.assertEqual(answered[96:96 + 294], [1, -1] * 147)
        self.assertEqual(answered[390:399], [1, 96, 1, 96, 1, 96, 2, 0, 96])


def frames():
    frame = sys._getframe()
    while frame is not None:
        yield frame
        frame = frame.f_back


if __name__ == "__main__":
    unittest.main()
