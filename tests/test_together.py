"""All twelve calls together, in many orders, held against the document's words."""

import collections
import random
import unittest

from helper import HIGHEST, LOWEST, apart, ask, begin, behind, by_the_words, give, image, in_set, mix, plan, same
from helper import spread, tested, told

LINES = 400

# Each answer and each refusal of which the document tells, by the call's number.
ALL_ANSWERS = {
    0: {"told", -22}, 1: {"told", -11, -2, -22}, 2: {"told", -11, -2}, 3: {"told", -11, -2}, 4: {"told", -11, -2},
    5: {"told", -11, -2, -22}, 6: {"told", -11, -2}, 7: {"told", -11, -2, -22}, 8: {"told", -11, -2, -22, -75},
    9: {"told", -11, -2}, 10: {"told", -11, -2, -22}, 11: {"told", -11, -2},
}


class Chooser:
    """Calls that are mostly as they should be, always the same ones for the same seed."""

    def __init__(self, seed):
        self.choice = random.Random(seed)
        self.n = self.choice.randint(1, 6)
        # One line in four is mixed nearly all the time, so that its lower numbers come up to the limit.
        self.fine = seed % 4 == 0

    def number(self, low, high):
        if self.choice.randrange(40) == 0:
            return self.choice.choice((low - 1, high + 1, LOWEST, HIGHEST))
        return self.choice.randint(low, high)

    def slot(self):
        return self.number(0, 3)

    def row(self, length, low, high):
        if self.choice.randrange(20) == 0:
            length = self.choice.choice((0, max(length - 1, 0), length + 1, 70))
        return [self.number(low, high) for place in range(length)]

    def begin(self):
        n = self.number(1, 6)
        if 1 <= n <= 6:
            self.n = n
        return begin(n)

    def tested(self):
        row = self.row(self.n ** 2, 0, 1)
        return tested(self.slot(), self.slot(), self.choice.choice((0, 1, 2, sum(row))) % HIGHEST, row)

    def mix(self):
        b = self.number(1, 20)
        return mix(self.slot(), self.slot(), self.slot(), self.number(0, max(1, min(b, 20))), b)

    def call(self):
        kind = self.choice.randrange(60)
        if kind == 0:
            return self.begin()
        if self.fine and kind < 50:
            return mix(0, self.slot(), 0, self.number(1, 18), self.number(19, 20))
        makers = (
            lambda: spread(self.slot(), self.row(self.n, 0, self.choice.choice((0, 1, 20)))),
            lambda: told(self.slot()),
            lambda: apart(self.slot(), self.slot()),
            lambda: plan(self.slot(), self.slot()),
            self.tested,
            lambda: behind(self.slot(), self.slot(), self.slot()),
            lambda: image(self.slot(), self.slot(), self.row(self.n, 0, self.n - 1)),
            self.mix, self.mix, self.mix,
            lambda: same(self.slot(), self.slot()),
            lambda: in_set(self.slot(), self.number(0, 2 ** self.n - 1)),
            lambda: give(self.slot(), self.slot()),
        )
        return makers[kind % len(makers)]()

    def line(self):
        ahead = [self.call() for place in range(self.choice.choice((0, 0, 0, 3)))]
        calls = ahead + [begin(self.n)] + [spread(k, self.row(self.n, 0, 20)) for k in range(4)]
        return calls + [self.call() for place in range(60 - len(calls))]


class TogetherTest(unittest.TestCase):
    def test_by_the_words(self):
        seen = collections.defaultdict(set)
        for seed in range(LINES):
            calls = Chooser(seed).line()
            found = ask(*calls)
            self.assertEqual(found, by_the_words(*calls))
            for call, answer in zip(calls, found):
                seen[call[0]].add("told" if answer[0] >= 0 else answer[0])
        self.assertEqual(seen, ALL_ANSWERS)

    def test_a_refused_call_may_as_well_be_left_out(self):
        for seed in range(LINES):
            calls = Chooser(seed).line()
            kept = [(call, answer) for call, answer in zip(calls, ask(*calls)) if answer[0] >= 0]
            self.assertEqual(ask(*[call for call, answer in kept]), [answer for call, answer in kept])


if __name__ == "__main__":
    unittest.main()
