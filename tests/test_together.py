"""All twelve calls together: in many orders, held against the document's words, and what holds of several of them."""

import collections
import itertools
import random
import unittest

from helper import HIGHEST, LOWEST, apart, ask, begin, behind, by_the_words, fractions_of, give, image, in_set, lists_of
from helper import mix, plan, same, spread, tested, told, two_spreads, whole_plans

LINES = 400

# Each answer and each refusal of which the document tells, by the call's number.
ALL_ANSWERS = {
    0: {"told", -22}, 1: {"told", -11, -2, -22}, 2: {"told", -11, -2}, 3: {"told", -11, -2}, 4: {"told", -11, -2},
    5: {"told", -11, -2, -22}, 6: {"told", -11, -2}, 7: {"told", -11, -2, -22}, 8: {"told", -11, -2, -22, -75},
    9: {"told", -11, -2}, 10: {"told", -11, -2, -22}, 11: {"told", -11, -2},
}


class Chooser:
    """Calls that are mostly as they should be, always the same ones for the same seed."""

    def __init__(self, seed):
        self.choice = random.Random(seed)
        self.n = self.choice.randint(1, 6)
        # One line in four is mixed nearly all the time, so that its lower numbers come up to the limit.
        self.fine = seed % 4 == 0

    def number(self, low, high):
        if self.choice.randrange(40) == 0:
            return self.choice.choice((low - 1, high + 1, LOWEST, HIGHEST))
        return self.choice.randint(low, high)

    def slot(self):
        return self.number(0, 3)

    def row(self, length, low, high):
        if self.choice.randrange(20) == 0:
            length = self.choice.choice((0, max(length - 1, 0), length + 1, 70))
        return [self.number(low, high) for place in range(length)]

    def begin(self):
        n = self.number(1, 6)
        if 1 <= n <= 6:
            self.n = n
        return begin(n)

    def tested(self):
        row = self.row(self.n ** 2, 0, 1)
        return tested(self.slot(), self.slot(), self.choice.choice((0, 1, 2, sum(row))) % HIGHEST, row)

    def mix(self):
        b = self.number(1, 20)
        return mix(self.slot(), self.slot(), self.slot(), self.number(0, max(1, min(b, 20))), b)

    def call(self):
        kind = self.choice.randrange(60)
        if kind == 0:
            return self.begin()
        if self.fine and kind < 50:
            return mix(0, self.slot(), 0, self.number(1, 18), self.number(19, 20))
        makers = (
            lambda: spread(self.slot(), self.row(self.n, 0, self.choice.choice((0, 1, 20)))),
            lambda: told(self.slot()),
            lambda: apart(self.slot(), self.slot()),
            lambda: plan(self.slot(), self.slot()),
            self.tested,
            lambda: behind(self.slot(), self.slot(), self.slot()),
            lambda: image(self.slot(), self.slot(), self.row(self.n, 0, self.n - 1)),
            self.mix, self.mix, self.mix,
            lambda: same(self.slot(), self.slot()),
            lambda: in_set(self.slot(), self.number(0, 2 ** self.n - 1)),
            lambda: give(self.slot(), self.slot()),
        )
        return makers[kind % len(makers)]()

    def line(self):
        ahead = [self.call() for place in range(self.choice.choice((0, 0, 0, 3)))]
        calls = ahead + [begin(self.n)] + [spread(k, self.row(self.n, 0, 20)) for k in range(4)]
        return calls + [self.call() for place in range(60 - len(calls))]


class TogetherTest(unittest.TestCase):
    def test_by_the_words(self):
        seen = collections.defaultdict(set)
        for seed in range(LINES):
            calls = Chooser(seed).line()
            found = ask(*calls)
            self.assertEqual(found, by_the_words(*calls))
            for call, answer in zip(calls, found):
                seen[call[0]].add("told" if answer[0] >= 0 else answer[0])
        self.assertEqual(seen, ALL_ANSWERS)

    def test_a_refused_call_may_as_well_be_left_out(self):
        for seed in range(LINES):
            calls = Chooser(seed).line()
            kept = [(call, answer) for call, answer in zip(calls, ask(*calls)) if answer[0] >= 0]
            self.assertEqual(ask(*[call for call, answer in kept]), [answer for call, answer in kept])


def chances_of_sets(first, second):
    """For both spreads, how likely each comes in each set, by the calls."""
    sets = range(2 ** len(first))
    found = ask(*two_spreads(first, second), *[in_set(k, s) for k in (0, 1) for s in sets])[3:]
    chances = [fractions_of(answer[1:])[0] for answer in found]
    return chances[:len(sets)], chances[len(sets):]


def pairs_of_plans(first, second):
    """For each plan in whole numbers that the call test takes, the pairs that get something, as bits, row by row."""
    plans = whole_plans(first, second)
    found = ask(*two_spreads(first, second), *[tested(0, 1, sum(first), numbers) for numbers in plans])[3:]
    return [sum(2 ** place for place, number in enumerate(numbers) if number > 0)
            for numbers, answer in zip(plans, found) if answer[0] == 1]


def reached(pairs, s, n):
    """The set of points to which some of the set s may go."""
    return sum(2 ** j for j in range(n) if any(s >> i & 1 and pairs >> (i * n + j) & 1 for i in range(n)))


class PairsThatMayBeTest(unittest.TestCase):
    def test_they_have_a_plan_just_if_no_set_has_more_than_it_may_go_to(self):
        for n, total in ((1, 1), (2, 3), (3, 2)):
            goes = [[reached(pairs, s, n) for s in range(2 ** n)] for pairs in range(2 ** (n * n))]
            for first, second in itertools.product(lists_of(n, total), repeat=2):
                ones, others = chances_of_sets(first, second)
                supports = pairs_of_plans(first, second)
                for pairs in range(2 ** (n * n)):
                    has_plan = any(support & ~pairs == 0 for support in supports)
                    has_room = all(ones[s] <= others[goes[pairs][s]] for s in range(2 ** n))
                    self.assertEqual(has_plan, has_room, (first, second, pairs))


if __name__ == "__main__":
    unittest.main()
