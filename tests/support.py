"""What the tests share: a way to ask calls, and a slow program to compare with."""

import itertools

from drillrounds.board import answers

BOARD, HOLE, DROP, HOLES, TOOLS, ORDER, SET, LENGTH, NEAREST, GROUPED, IMPROVE, BEST = range(12)

FAR = 10 ** 18


def parted(answered):
    """The answers one by one, out of the one list that is given back."""
    parts = []
    at = 0
    while at < len(answered):
        size = answered[at]
        part = answered[at + 1:at + 1 + size]
        if size < 1 or len(part) != size:
            raise AssertionError(f"a wrong count at {at} of {answered}")
        parts.append(part)
        at += 1 + size
    return parts


def joined(calls):
    return [number for call in calls for number in call]


def ask(*calls):
    parts = parted(answers(joined(calls)))
    if len(parts) != len(calls):
        raise AssertionError(f"{len(calls)} calls, {len(parts)} answers")
    return parts


def ask_last(*calls):
    return ask(*calls)[-1]


def set_to(*numbers):
    return [SET, len(numbers), *numbers]


def drilled(*holes):
    """A call of hole for each (x, y, d)."""
    return [[HOLE, *hole] for hole in holes]


def on_a_line(*xs):
    return drilled(*[(x, 0, 1) for x in xs])


SEEN = ([HOLES], [TOOLS], [ORDER], [LENGTH])


class Plain:
    """The same calls, done in the plainest way that the document tells them."""

    def __init__(self):
        self.renew(1000, 1000, 0)

    def renew(self, w, h, c):
        self.w, self.h, self.c = w, h, c
        self.holes = []
        self.kept = []

    def way(self, a, b):
        return max(abs(a[0] - b[0]), abs(a[1] - b[1]))

    def length_of(self, order):
        if not order:
            return 0
        total = self.way((0, 0), self.holes[order[0]])
        for one, other in zip(order, order[1:]):
            total += self.way(self.holes[one], self.holes[other])
            if self.holes[one][2] != self.holes[other][2]:
                total += self.c
        return total + self.way(self.holes[order[-1]], (0, 0))

    def board(self, w, h, c):
        if w not in range(1, 10 ** 9) or h not in range(1, 10 ** 9) or c not in range(10 ** 9 + 1):
            return [-1]
        self.renew(w, h, c)
        return [0]

    def hole(self, x, y, d):
        if x not in range(self.w + 1) or y not in range(self.h + 1) or d not in range(1, 10 ** 7 + 1):
            return [-1]
        if (x, y) in [hole[:2] for hole in self.holes]:
            return [-2]
        if len(self.holes) == 48:
            return [-3]
        self.holes.append((x, y, d))
        self.kept.append(len(self.holes) - 1)
        return [len(self.holes) - 1]

    def drop(self, i):
        if i not in range(len(self.holes)):
            return [-1]
        del self.holes[i]
        self.kept = [k - (k > i) for k in self.kept if k != i]
        return [len(self.holes)]

    def tools(self):
        tools = sorted({hole[2] for hole in self.holes})
        counted = [(d, sum(hole[2] == d for hole in self.holes)) for d in tools]
        return [len(tools), *joined(counted)]

    def set_order(self, numbers):
        if sorted(numbers) != list(range(len(self.holes))):
            return [-1]
        self.kept = list(numbers)
        return [self.length_of(self.kept)]

    def length(self):
        tools = [self.holes[k][2] for k in self.kept]
        return [self.length_of(self.kept), sum(a != b for a, b in zip(tools, tools[1:]))]

    def nearest(self):
        self.kept = []
        left = list(range(len(self.holes)))
        while left:
            costs = []
            for k in left:
                if self.kept:
                    before = self.holes[self.kept[-1]]
                    change = self.c if before[2] != self.holes[k][2] else 0
                    costs.append((self.way(before, self.holes[k]) + change, k))
                else:
                    costs.append((self.way((0, 0), self.holes[k]), k))
            self.kept.append(min(costs)[1])
            left.remove(self.kept[-1])
        return [self.length_of(self.kept)]

    def grouped(self):
        self.kept = []
        at = (0, 0)
        for d in sorted({hole[2] for hole in self.holes}):
            left = [k for k, hole in enumerate(self.holes) if hole[2] == d]
            while left:
                k = min((self.way(at, self.holes[k]), k) for k in left)[1]
                left.remove(k)
                self.kept.append(k)
                at = self.holes[k]
        return [self.length_of(self.kept)]

    def changes(self):
        size = len(self.kept)
        for i in range(size):
            for j in range(i + 1, size):
                yield self.kept[:i] + self.kept[i:j + 1][::-1] + self.kept[j + 1:]
        for i in range(size):
            for j in range(size):
                if j != i:
                    changed = list(self.kept)
                    changed.insert(j, changed.pop(i))
                    yield changed

    def improve(self, budget):
        if budget not in range(101):
            return [-1]
        made = 0
        while made < budget:
            best = min(self.changes(), key=self.length_of, default=self.kept)
            if self.length_of(best) >= self.length_of(self.kept):
                break
            self.kept = best
            made += 1
        return [made, self.length_of(self.kept)]

    def best(self):
        if len(self.holes) > 7:
            return [-3]
        order = min(itertools.permutations(range(len(self.holes))), key=self.length_of)
        return [self.length_of(order), *order]

    def answer(self, call):
        number, rest = call[0], call[1:]
        if number == SET:
            return self.set_order(rest[1:])
        if number == HOLES:
            return [len(self.holes), *joined(self.holes)]
        if number == ORDER:
            return [len(self.kept), *self.kept]
        named = {BOARD: self.board, HOLE: self.hole, DROP: self.drop, TOOLS: self.tools,
                 LENGTH: self.length, NEAREST: self.nearest, GROUPED: self.grouped,
                 IMPROVE: self.improve, BEST: self.best}
        return named[number](*rest)


def plain_answers(calls):
    plain = Plain()
    return [plain.answer(call) for call in calls]
