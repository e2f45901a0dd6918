"""Many lists of calls, each compared with the slow program call by call."""

import unittest

from support import (BEST, BOARD, CHECK, DROP, FIND, FIT, GROUPED, HOLE, HOLES, IMPROVE, LENGTH, LOAD, NEAREST, ORDER,
                     PANEL, PANELHOLES, PANELPROGRAM, PROGRAM, RUN, TOOLS, TREE, WALK, ask, plain_answers, set_to,
                     text_call, written)


class Draw:
    """Numbers that look as if drawn, and are the same each time and on each Python."""

    def __init__(self, seed):
        self.state = seed

    def below(self, limit):
        self.state = (self.state * 6364136223846793005 + 1442695040888963407) % 2 ** 64
        return (self.state >> 33) % limit

    def of(self, choices):
        return choices[self.below(len(choices))]

    def shuffled(self, size):
        left = list(range(size))
        return [left.pop(self.below(len(left))) for _ in range(size)]


def drawn_holes(draw, count, side, tools):
    return [[HOLE, draw.below(side + 1), draw.below(side + 1), 1 + draw.below(tools)] for _ in range(count)]


def drawn_call(draw, side):
    number = draw.of((HOLE, HOLE, HOLE, DROP, HOLES, TOOLS, ORDER, "set", LENGTH, NEAREST, GROUPED, IMPROVE, BEST))
    if number == HOLE:
        return [HOLE, draw.below(side + 3) - 1, draw.below(side + 3) - 1, draw.below(5)]
    if number == DROP:
        return [DROP, draw.below(8) - 1]
    if number == IMPROVE:
        return [IMPROVE, draw.of((-1, 0, 1, 2, 3, 100, 101))]
    if number == "set":
        return set_to(*draw.shuffled(draw.below(8)))
    return [number]


def drawn_point(draw, side):
    return f"{draw.below(side + 3) - 1} {draw.below(side + 3) - 1}"


def drawn_step(draw):
    return f"{draw.below(5) - 2} {draw.below(5) - 2}"


def drawn_line(draw, side):
    word = draw.of(("tool", "to", "go", "at", "at", "at", "by", "by", "here", "run", "rep", "rep", "end", "end", "#",
                    ""))
    if word == "tool":
        return f"tool {1 + draw.below(4)}"
    if word in ("to", "at"):
        return f"{word} {drawn_point(draw, side)}"
    if word in ("go", "by"):
        return f"{word} {drawn_step(draw)}"
    if word == "run":
        return f"run {draw.of((1, 2, 3, 1000))} {drawn_step(draw)}"
    if word == "rep":
        return f"rep {draw.of((0, 1, 2, 3, 1000))}"
    return word


def drawn_program(draw, side):
    """Mostly a right one, as loops are closed as they should be."""
    lines = ["tool 1"]
    depth = 0
    for _ in range(draw.below(12)):
        line = drawn_line(draw, side)
        if line == "end" and depth == 0:
            continue
        depth += line.startswith("rep") - (line == "end")
        lines.append(line)
    return lines + ["end"] * depth


def drawn_points(draw, side):
    """A program that can mostly be loaded."""
    lines = ["tool 1"]
    for _ in range(draw.below(6)):
        lines.append(draw.of((f"at {draw.below(side + 1)} {draw.below(side + 1)}", f"tool {1 + draw.below(3)}")))
    return lines


def drawn_text(draw, side):
    lines = draw.of((drawn_program, drawn_points))(draw, side)
    text = "".join(line + "\n" for line in lines)
    for _ in range(draw.of((0, 0, 0, 1, 2))):
        at = draw.below(len(text) + 1)
        gone = draw.of((0, 1, 1, 5))
        put = draw.of(("", " ", "\n", "-", "0", "1", "#", "\t", "end\n", "rep 2\n", "x"))
        text = text[:at] + put + text[at + gone:]
    return text


def drawn_further_call(draw, side):
    number = draw.of((TREE, WALK, PANEL, PANELHOLES, FIND, FIND, FIT, PROGRAM, PANELPROGRAM, RUN, CHECK, LOAD))
    if number == PANEL:
        steps = [draw.of((side, side + 1, side + 2, 2 * side + 1, 400000000)) for _ in range(2)]
        return [PANEL, draw.below(5), draw.of((1, 2, 3, 16, 17)), *steps, draw.of((0, 0, 1, 1, 2))]
    if number == FIND:
        return [FIND, draw.below(4 * side) - side, draw.below(4 * side) - side]
    if number == FIT:
        return [FIT, draw.below(8 * side), draw.of((draw.below(8 * side), 1001 * side)), draw.below(side + 1) - 1]
    if number in (RUN, CHECK, LOAD):
        return text_call(number, drawn_text(draw, side))
    return [number]


class Compare(unittest.TestCase):
    def same(self, calls):
        self.assertEqual(ask(*calls), plain_answers(calls), calls)

    def test_calls_in_any_order(self):
        for seed in range(300):
            draw = Draw(seed)
            side = 2 + draw.below(8)
            calls = [[BOARD, side, side, draw.of((0, 1, 2, 5, 50))]]
            self.same(calls + [drawn_call(draw, side) for _ in range(60)])

    def test_all_calls_in_any_order(self):
        for seed in range(400):
            draw = Draw(5000 + seed)
            side = 2 + draw.below(8)
            calls = [[BOARD, side, side, draw.of((0, 1, 2, 5, 50))]]
            for _ in range(40):
                calls += [drawn_call(draw, side), drawn_further_call(draw, side)]
            self.same(calls)

    def test_trees_of_many_holes(self):
        # Small boards, so that many ways are equal.
        for seed in range(200):
            draw = Draw(6000 + seed)
            side = draw.of((6, 7, 9, 30, 999999999))
            self.same([[BOARD, side, side, draw.of((0, 2, 20))], *drawn_holes(draw, 5 + draw.below(50), side, 3),
                       [TREE], [WALK], [ORDER], [PROGRAM], [IMPROVE, 0]])

    def test_texts(self):
        for seed in range(2000):
            draw = Draw(7000 + seed)
            self.same([text_call(number, drawn_text(draw, 5)) for number in (RUN, RUN, CHECK, LOAD)])

    def test_programs_of_panels(self):
        for seed in range(150):
            draw = Draw(10000 + seed)
            side = draw.of((3, 8, 30))
            steps = [side + 1 + draw.below(4) for _ in range(2)]
            calls = [[BOARD, side, side, 3], *drawn_holes(draw, draw.below(15), side, 3),
                     [draw.of((NEAREST, WALK, ORDER))], [PANEL, 1 + draw.below(5), 1 + draw.below(5), *steps, 0]]
            self.same([*calls, [PANELPROGRAM], [PROGRAM]])
            lines = written(ask(*calls, [PANELPROGRAM])[-1])
            self.same([*calls, text_call(RUN, lines), text_call(CHECK, lines), [PANELHOLES]])
            self.assertEqual(ask(*calls, text_call(CHECK, lines))[-1], [0, 0])

    def test_fits(self):
        for seed in range(150):
            draw = Draw(11000 + seed)
            w, h = 1 + draw.below(9), 1 + draw.below(9)
            fits = [[FIT, 1 + draw.below(60), 1 + draw.below(60), draw.below(4)] for _ in range(40)]
            self.same([[BOARD, w, h, 0], *fits])

    def test_improve_step_by_step(self):
        # Small boards, so that many changes are equally good.
        for seed in range(400):
            draw = Draw(1000 + seed)
            side = 2 + draw.below(5)
            calls = [[BOARD, side, side, draw.of((0, 1, 3, 10))], *drawn_holes(draw, 4 + draw.below(7), side, 3)]
            for _ in range(8):
                calls += [[IMPROVE, 1], [ORDER]]
            self.same(calls)

    def test_best_of_up_to_7(self):
        for seed in range(120):
            draw = Draw(2000 + seed)
            side = 1 + draw.below(6)
            self.same([[BOARD, side, side, draw.of((0, 1, 3, 10))],
                       *drawn_holes(draw, 2 + draw.below(6), side, 3), [BEST], [ORDER]])

    def test_orders_of_many_holes(self):
        for seed in range(60):
            draw = Draw(3000 + seed)
            side = draw.of((7, 30, 999999999))
            self.same([[BOARD, side, side, draw.of((0, 2, 20, 1000000000))], *drawn_holes(draw, 55, side, 4),
                       [NEAREST], [ORDER], [GROUPED], [ORDER], [LENGTH], [TOOLS]])

    def test_improve_many_holes(self):
        for seed in range(3):
            draw = Draw(4000 + seed)
            side = draw.of((7, 30, 999999999))
            self.same([[BOARD, side, side, draw.of((0, 2, 20))], *drawn_holes(draw, 30, side, 4),
                       [IMPROVE, 4], [ORDER], [GROUPED], [IMPROVE, 4], [ORDER]])


if __name__ == "__main__":
    unittest.main()
