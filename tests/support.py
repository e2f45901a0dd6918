"""What the tests share: a way to ask calls, and a slow program to compare with."""

import collections
import itertools
import re
import sys

from drillrounds.board import answers

(BOARD, HOLE, DROP, HOLES, TOOLS, ORDER, SET, LENGTH, NEAREST, GROUPED, IMPROVE, BEST,
 TREE, WALK, PANEL, PANELHOLES, FIND, FIT, PROGRAM, PANELPROGRAM, RUN, CHECK, LOAD) = range(23)

FAR = 10 ** 18


def parted(answered):
    """The answers one by one, out of the one list that is given back."""
    parts = []
    at = 0
    while at < len(answered):
        size = answered[at]
        part = answered[at + 1:at + 1 + size]
        if size < 1 or len(part) != size:
            raise AssertionError(f"a wrong count at {at} of {answered}")
        parts.append(part)
        at += 1 + size
    return parts


def joined(calls):
    return [number for call in calls for number in call]


def ask(*calls):
    parts = parted(answers(joined(calls)))
    if len(parts) != len(calls):
        raise AssertionError(f"{len(calls)} calls, {len(parts)} answers")
    return parts


def ask_last(*calls):
    return ask(*calls)[-1]


def set_to(*numbers):
    return [SET, len(numbers), *numbers]


def drilled(*holes):
    """A call of hole for each (x, y, d)."""
    return [[HOLE, *hole] for hole in holes]


def on_a_line(*xs):
    return drilled(*[(x, 0, 1) for x in xs])


def text_call(number, text):
    """A call with a text: a str of signs 0 to 255, or a list of lines."""
    if not isinstance(text, str):
        text = "".join(line + "\n" for line in text)
    data = text.encode("latin-1")
    return [number, len(data), *data]


def run_of(text):
    return text_call(RUN, text)


def check_of(text):
    return text_call(CHECK, text)


def load_of(text):
    return text_call(LOAD, text)


def written(answer):
    """The lines of a program that was answered with the count of its bytes."""
    if answer[0] != len(answer) - 1 or answer[-1] != 10:
        raise AssertionError(f"no program: {answer}")
    return bytes(answer[1:-1]).decode("ascii").split("\n")


def flat(holes):
    """The answer that tells these (x, y, d)."""
    return [len(holes), *joined(holes)]


def answers_within(calls, further):
    """What is answered when Python allows that many further calls within one another."""
    depth = 0
    frame = sys._getframe()
    while frame is not None:
        depth += 1
        frame = frame.f_back
    limit = sys.getrecursionlimit()
    # The frames of the test runner itself stand below, so the limit is set from here.
    sys.setrecursionlimit(depth + further)
    try:
        return answers(calls)
    finally:
        sys.setrecursionlimit(limit)


SEEN = ([HOLES], [TOOLS], [ORDER], [LENGTH])


class Plain:
    """The same calls, done in the plainest way that the document tells them."""

    def __init__(self):
        self.renew(1000, 1000, 0)

    def renew(self, w, h, c):
        self.w, self.h, self.c = w, h, c
        self.holes = []
        self.kept = []
        self.sheet = (1, 1, w + 1, h + 1, 0)

    def way(self, a, b):
        return max(abs(a[0] - b[0]), abs(a[1] - b[1]))

    def length_of(self, order):
        if not order:
            return 0
        total = self.way((0, 0), self.holes[order[0]])
        for one, other in zip(order, order[1:]):
            total += self.way(self.holes[one], self.holes[other])
            if self.holes[one][2] != self.holes[other][2]:
                total += self.c
        return total + self.way(self.holes[order[-1]], (0, 0))

    def board(self, w, h, c):
        if w not in range(1, 10 ** 9) or h not in range(1, 10 ** 9) or c not in range(10 ** 9 + 1):
            return [-1]
        self.renew(w, h, c)
        return [0]

    def hole(self, x, y, d):
        if x not in range(self.w + 1) or y not in range(self.h + 1) or d not in range(1, 10 ** 7 + 1):
            return [-1]
        if (x, y) in [hole[:2] for hole in self.holes]:
            return [-2]
        if len(self.holes) == 48:
            return [-3]
        if (len(self.holes) + 1) * self.sheet[0] * self.sheet[1] > 512:
            return [-4]
        self.holes.append((x, y, d))
        self.kept.append(len(self.holes) - 1)
        return [len(self.holes) - 1]

    def drop(self, i):
        if i not in range(len(self.holes)):
            return [-1]
        del self.holes[i]
        self.kept = [k - (k > i) for k in self.kept if k != i]
        return [len(self.holes)]

    def tools(self):
        tools = sorted({hole[2] for hole in self.holes})
        counted = [(d, sum(hole[2] == d for hole in self.holes)) for d in tools]
        return [len(tools), *joined(counted)]

    def set_order(self, numbers):
        if sorted(numbers) != list(range(len(self.holes))):
            return [-1]
        self.kept = list(numbers)
        return [self.length_of(self.kept)]

    def length(self):
        tools = [self.holes[k][2] for k in self.kept]
        return [self.length_of(self.kept), sum(a != b for a, b in zip(tools, tools[1:]))]

    def nearest(self):
        self.kept = []
        left = list(range(len(self.holes)))
        while left:
            costs = []
            for k in left:
                if self.kept:
                    before = self.holes[self.kept[-1]]
                    change = self.c if before[2] != self.holes[k][2] else 0
                    costs.append((self.way(before, self.holes[k]) + change, k))
                else:
                    costs.append((self.way((0, 0), self.holes[k]), k))
            self.kept.append(min(costs)[1])
            left.remove(self.kept[-1])
        return [self.length_of(self.kept)]

    def grouped(self):
        self.kept = []
        at = (0, 0)
        for d in sorted({hole[2] for hole in self.holes}):
            left = [k for k, hole in enumerate(self.holes) if hole[2] == d]
            while left:
                k = min((self.way(at, self.holes[k]), k) for k in left)[1]
                left.remove(k)
                self.kept.append(k)
                at = self.holes[k]
        return [self.length_of(self.kept)]

    def changes(self):
        size = len(self.kept)
        for i in range(size):
            for j in range(i + 1, size):
                yield self.kept[:i] + self.kept[i:j + 1][::-1] + self.kept[j + 1:]
        for i in range(size):
            for j in range(size):
                if j != i:
                    changed = list(self.kept)
                    changed.insert(j, changed.pop(i))
                    yield changed

    def improve(self, budget):
        if budget not in range(101):
            return [-1]
        made = 0
        while made < budget:
            best = min(self.changes(), key=self.length_of, default=self.kept)
            if self.length_of(best) >= self.length_of(self.kept):
                break
            self.kept = best
            made += 1
        return [made, self.length_of(self.kept)]

    def best(self):
        if len(self.holes) > 7:
            return [-3]
        order = min(itertools.permutations(range(len(self.holes))), key=self.length_of)
        return [self.length_of(order), *order]

    def joins(self):
        """{hole: (way, parent)}, in the order in which the holes are put in."""
        inside = {}
        points = [(0, 0), *self.holes]
        while len(inside) < len(self.holes):
            outside = [k for k in range(len(self.holes)) if k not in inside]
            ways = [(self.way(self.holes[k], points[p]), k, p) for k in outside
                    for p in [0, *[k + 1 for k in inside]]]
            way, hole, parent = min(ways)
            inside[hole] = (way, parent)
        return inside

    def tree(self):
        joins = self.joins()
        return [sum(way for way, parent in joins.values()), *[joins[k][1] for k in range(len(joins))]]

    def behind(self, joins, parent):
        for k in range(len(joins)):
            if joins[k][1] == parent:
                yield k
                yield from self.behind(joins, k + 1)

    def walk(self):
        self.kept = list(self.behind(self.joins(), 0))
        return [self.length_of(self.kept)]

    def panel(self, columns, rows, px, py, alt):
        if columns not in range(1, 17) or rows not in range(1, 17) or alt not in (0, 1):
            return [-1]
        if px not in range(self.w + 1, 10 ** 9 + 1) or py not in range(self.h + 1, 10 ** 9 + 1):
            return [-1]
        if columns * px > 10 ** 9 or rows * py > 10 ** 9:
            return [-2]
        if len(self.holes) * columns * rows > 512:
            return [-4]
        self.sheet = (columns, rows, px, py, alt)
        return [0]

    def sheet_holes(self):
        """((x, y, d), column, row, number) of each hole of the panel."""
        columns, rows, px, py, alt = self.sheet
        for j, i, (number, (x, y, d)) in itertools.product(range(rows), range(columns), enumerate(self.holes)):
            if alt == 1 and (i + j) % 2 == 1:
                x, y = self.w - x, self.h - y
            yield (x + i * px, y + j * py, d), i, j, number

    def find(self, x, y):
        for hole, i, j, number in self.sheet_holes():
            if hole[:2] == (x, y):
                return [1, i, j, number]
        return [0]

    def fit(self, pw, ph, g):
        big = range(1, 10 ** 9 + 1)
        if pw not in big or ph not in big or g not in range(10 ** 9 + 1):
            return [-1]

        def along(length, side):
            return 0 if length < side else (length - side) // (side + g) + 1

        if along(ph, self.h) > 1000:
            return [-2]
        fits = []
        for k in range(along(ph, self.h) + 1):
            r = along(ph - k * (self.h + g), self.w)
            fits.append((k * along(pw, self.w) + r * along(pw, self.h), -k, r))
        boards, k, r = max(fits)
        return [boards, -k, along(pw, self.w), r, along(pw, self.h)]

    def program(self):
        if not self.kept:
            return spelled(["tool 1"])
        left = [self.holes[k] for k in self.kept]
        x, y, d = left.pop(0)
        lines = [f"tool {d}", f"at {x} {y}"]
        while left:
            dx, dy = left[0][0] - x, left[0][1] - y
            if left[0][2] != d:
                d = left[0][2]
                lines.append(f"tool {d}")
            k = 0
            while left and left[0] == (x + dx, y + dy, d) and k < 1000:
                x, y, d = left.pop(0)
                k += 1
            lines.append(f"run {k} {dx} {dy}" if k > 1 else f"by {dx} {dy}")
        return spelled(lines)

    def panelprogram(self):
        columns, rows, px, py, alt = self.sheet
        if alt == 1:
            return [-2]
        lines = []
        for d in sorted({hole[2] for hole in self.holes}):
            points = [self.holes[k][:2] for k in self.kept if self.holes[k][2] == d]
            (x, y), (xn, yn) = points[0], points[-1]
            lines += [f"tool {d}", f"to {x} {y}", f"rep {rows}", f"rep {columns}", "here"]
            lines += [f"by {b[0] - a[0]} {b[1] - a[1]}" for a, b in zip(points, points[1:])]
            lines += [f"go {x - xn + px} {y - yn}", "end", f"go {-columns * px} {py}", "end"]
        return spelled(lines or ["tool 1"])

    def run(self, text):
        try:
            return flat(plain_drilled(text))
        except PlainRefusal as refusal:
            return [refusal.number]

    def check(self, text):
        try:
            drilled_holes = collections.Counter(plain_drilled(text))
        except PlainRefusal as refusal:
            return [refusal.number]
        wanted = collections.Counter(found[0] for found in self.sheet_holes())
        return [(wanted - drilled_holes).total(), (drilled_holes - wanted).total()]

    def load(self, text):
        try:
            holes = plain_drilled(text)
        except PlainRefusal as refusal:
            return [refusal.number]
        if any(x not in range(self.w + 1) or y not in range(self.h + 1) for x, y, d in holes):
            return [-1]
        if any(one[:2] == other[:2] for one, other in itertools.combinations(holes, 2)):
            return [-2]
        if len(holes) > 48:
            return [-3]
        if len(holes) * self.sheet[0] * self.sheet[1] > 512:
            return [-4]
        self.holes = holes
        self.kept = list(range(len(holes)))
        return [len(holes)]

    def answer(self, call):
        number, rest = call[0], call[1:]
        if number in (SET, RUN, CHECK, LOAD):
            rest = [rest[1:]]
        if number == HOLES:
            return flat(self.holes)
        if number == PANELHOLES:
            return flat([found[0] for found in self.sheet_holes()])
        if number == ORDER:
            return [len(self.kept), *self.kept]
        named = {BOARD: self.board, HOLE: self.hole, DROP: self.drop, TOOLS: self.tools, SET: self.set_order,
                 LENGTH: self.length, NEAREST: self.nearest, GROUPED: self.grouped,
                 IMPROVE: self.improve, BEST: self.best, TREE: self.tree, WALK: self.walk, PANEL: self.panel,
                 FIND: self.find, FIT: self.fit, PROGRAM: self.program, PANELPROGRAM: self.panelprogram,
                 RUN: self.run, CHECK: self.check, LOAD: self.load}
        return named[number](*rest)


def spelled(lines):
    data = "".join(line + "\n" for line in lines).encode("ascii")
    return [len(data), *data]


class PlainRefusal(Exception):
    def __init__(self, number):
        super().__init__(number)
        self.number = number


NUMBER = rb"(0|-?[1-9][0-9]{0,9})"
KINDS = {b"tool": ["d"], b"to": "xy", b"go": "xy", b"at": "xy", b"by": "xy", b"here": "", b"run": "nxy",
         b"rep": "m", b"end": ""}
LIMITS = {"d": (1, 10 ** 7), "x": (-2 * 10 ** 9, 2 * 10 ** 9), "y": (-2 * 10 ** 9, 2 * 10 ** 9),
          "n": (1, 1000), "m": (0, 1000)}


def plain_line(line):
    """The word and its numbers; None if it is passed over; a ValueError if it is wrong in itself."""
    if not re.fullmatch(rb"[ -~]*", line):
        raise ValueError
    if re.fullmatch(rb" *(#.*)?", line):
        return None
    word, *rest = line.split()
    if word not in KINDS or len(rest) != len(KINDS[word]):
        raise ValueError
    for given, kind in zip(rest, KINDS[word]):
        if not re.fullmatch(NUMBER, given) or not LIMITS[kind][0] <= int(given) <= LIMITS[kind][1]:
            raise ValueError
    return word.decode(), *map(int, rest)


def plain_blocks(text):
    """The program as a list in which a loop is ("rep", N, list)."""
    data = bytes(text)
    lines = data.split(b"\n") if data else []
    if data.endswith(b"\n"):
        lines.pop()
    blocks = [[]]
    for at, line in enumerate(lines, 1):
        try:
            told = plain_line(line)
        except ValueError:
            raise PlainRefusal(-100 - at)
        if told is None:
            continue
        no_tool = blocks == [[]] and told[0] != "tool"
        if no_tool or (told[0] == "rep" and len(blocks) == 9) or (told[0] == "end" and len(blocks) == 1):
            raise PlainRefusal(-100 - at)
        if told[0] == "end":
            blocks.pop()
            continue
        if told[0] == "rep":
            told = (*told, [])
        blocks[-1].append(told)
        if told[0] == "rep":
            blocks.append(told[2])
    if len(blocks) > 1 or not blocks[0]:
        raise PlainRefusal(-100 - len(lines) - 1)
    return blocks[0]


def plain_steps(block):
    """The lines in the order in which they are done."""
    for told in block:
        yield told
        if told[0] == "rep":
            for _ in range(told[1]):
                yield from plain_steps(told[2])
                yield ("end",)


def plain_drilled(text):
    x = y = d = done = 0
    holes = []
    for word, *given in plain_steps(plain_blocks(text)):
        done += 1
        times = given.pop(0) if word == "run" else 1
        for _ in range(times):
            if word == "tool":
                d = given[0]
            elif word in ("to", "at"):
                x, y = given
            elif word in ("go", "by", "run"):
                x, y = x + given[0], y + given[1]
            if word in ("here", "at", "by", "run"):
                holes.append((x, y, d))
        if done > 8192 or len(holes) > 2048:
            raise PlainRefusal(-6)
    return holes


def plain_answers(calls):
    plain = Plain()
    return [plain.answer(call) for call in calls]
