"""The call behind, and what holds of two plans one behind the other."""

import itertools
import math
import unittest

from helper import HIGHEST, NO_SLOTS, ask, begin, behind, by_the_words, chances, everything, fractions_of, image, last
from helper import plan, same, spread, tested

ROWS = [row for row in itertools.product((0, 1, 3), repeat=3) if sum(row) > 0]

# Points without chance at all places between, much and nothing in common, sums without a common divisor.
SIX = (
    [1, 0, 0, 0, 0, 0], [0, 0, 0, 0, 0, 1], [1, 1, 1, 1, 1, 1], [1, 2, 3, 4, 5, 6], [20, 0, 20, 0, 20, 0],
    [0, 19, 0, 17, 0, 13], [0, 0, 7, 11, 0, 0], [20, 19, 18, 17, 16, 15],
)


def three_spreads(first, between, third):
    """The calls that put three spreads into the slots 0, 1 and 2 of a new ground."""
    return [begin(len(first)), spread(0, first), spread(1, between), spread(2, third)]


def triples():
    yield from itertools.product(SIX, repeat=3)
    yield from itertools.product(ROWS[::2], repeat=3)
    yield from itertools.product(([0, 1], [1, 0], [1, 1], [1, 2], [7, 5]), repeat=3)
    yield from itertools.product(([1], [20]), repeat=3)


def plan_numbers(answer, n):
    """The answer to plan or behind, as fractions: the plan's, and how often it differs."""
    found = fractions_of(answer[1:])
    if answer[0] != n * n or len(found) != n * n + 1:
        raise AssertionError(f"wrong count: {answer}")
    return found[:-1], found[-1]


class BehindTest(unittest.TestCase):
    def test_ordinary(self):
        self.assertEqual(last(*three_spreads([1, 2, 3], [3, 2, 1], [1, 1, 1]), behind(0, 1, 2)),
                         [9, 1, 9, 0, 1, 1, 18, 0, 1, 1, 3, 0, 1, 2, 9, 0, 1, 5, 18, 5, 18])
        self.assertEqual(last(*three_spreads([1, 0], [1, 1], [0, 1]), behind(0, 1, 2)),
                         [4, 0, 1, 1, 1, 0, 1, 0, 1, 1, 1])

    def test_a_point_without_chance_between(self):
        self.assertEqual(last(*three_spreads([1, 1], [1, 0], [1, 1]), behind(0, 1, 2)),
                         [4, 1, 4, 1, 4, 1, 4, 1, 4, 1, 2])
        self.assertEqual(last(*three_spreads([1, 1], [0, 1], [1, 2]), behind(0, 1, 2)),
                         [4, 1, 6, 1, 3, 1, 6, 1, 3, 1, 2])

    def test_one_point(self):
        self.assertEqual(last(*three_spreads([5], [7], [1]), behind(0, 1, 2)), [1, 1, 1, 0, 1])

    def test_the_same_spread_twice(self):
        for first, second in itertools.product(ROWS, repeat=2):
            found = ask(*three_spreads(first, second, first), plan(0, 1), behind(0, 0, 1), behind(0, 1, 1),
                        behind(0, 2, 1), behind(2, 0, 1))[4:]
            self.assertEqual(found, [found[0]] * 5)
        self.assertEqual(last(*three_spreads([1, 2], [2, 4], [3, 6]), behind(0, 1, 2)),
                         [4, 1, 3, 0, 1, 0, 1, 2, 3, 0, 1])

    def test_there_and_back(self):
        # Both outer ones are the same, yet it's the plans of each with the one between that are taken.
        self.assertEqual(last(*three_spreads([1, 1], [1, 0], [1, 1]), behind(0, 1, 0)),
                         [4, 1, 4, 1, 4, 1, 4, 1, 4, 1, 2])

    def test_nothing_in_common(self):
        self.assertEqual(last(*three_spreads([1, 0, 0], [0, 1, 0], [0, 0, 1]), behind(0, 1, 2)),
                         [9, 0, 1, 0, 1, 1, 1] + [0, 1] * 6 + [1, 1])
        self.assertEqual(last(*three_spreads([1, 0, 0], [0, 1, 0], [0, 0, 1]), behind(0, 1, 0)),
                         [9, 1, 1] + [0, 1] * 8 + [0, 1])

    def test_the_order_of_the_slots(self):
        calls = three_spreads([1, 2, 3], [3, 2, 1], [1, 1, 1])
        self.assertEqual(last(*calls, behind(2, 1, 0)),
                         [9, 1, 9, 0, 1, 2, 9, 0, 1, 1, 3, 0, 1, 1, 18, 0, 1, 5, 18, 5, 18])
        moved = [begin(3), spread(3, [1, 2, 3]), spread(2, [3, 2, 1]), spread(0, [1, 1, 1])]
        self.assertEqual(last(*moved, behind(3, 2, 0)), last(*calls, behind(0, 1, 2)))

    def test_after_an_image_of_all_on_one_point(self):
        found = ask(*three_spreads([1, 1], [1, 2], [1, 1]), image(1, 1, [1, 1]), behind(0, 1, 2), same(0, 2))[5:]
        self.assertEqual(found, [[4, 1, 4, 1, 4, 1, 4, 1, 4, 1, 2], [1]])

    def test_no_slot(self):
        for k in NO_SLOTS:
            found = ask(begin(2), behind(k, 0, 0), behind(0, k, 0), behind(0, 0, k), behind(k, k, k))
            self.assertEqual(found[1:], [[-2]] * 4)

    def test_nothing_changes(self):
        calls = three_spreads([1, 2], [1, 3], [1, 4])
        found = ask(*calls, behind(0, 1, 2), behind(0, 1, 4), *everything(), behind(0, 1, 2))[4:]
        self.assertEqual(found[2:6], [[2, 1, 3, 2, 3], [2, 1, 4, 3, 4], [2, 1, 5, 4, 5], [2, 1, 1, 0, 1]])
        self.assertEqual(found[6], found[0])

    def test_by_the_words(self):
        for first, between, third in triples():
            calls = three_spreads(first, between, third) + [plan(0, 1), plan(1, 2), behind(0, 1, 2)]
            self.assertEqual(ask(*calls), by_the_words(*calls))

    def test_it_is_a_plan_of_the_outer_two_and_differs_no_oftener_than_both(self):
        for first, between, third in triples():
            n = len(first)
            asked = [plan(0, 1), plan(1, 2), behind(0, 1, 2), plan(0, 2)]
            answers = ask(*three_spreads(first, between, third), *asked)[4:]
            front, back, found, best = [plan_numbers(answer, n) for answer in answers]
            numbers, differs = found
            self.assertGreaterEqual(min(numbers), 0)
            self.assertEqual([sum(numbers[n * i:n * i + n]) for i in range(n)], chances(first))
            self.assertEqual([sum(numbers[j::n]) for j in range(n)], chances(third))
            self.assertEqual(differs, sum(numbers) - sum(numbers[::n + 1]))
            self.assertLessEqual(differs, front[1] + back[1])
            self.assertGreaterEqual(differs, best[1])

    def test_the_test_takes_it(self):
        taken = 0
        for first, between, third in triples():
            calls = three_spreads(first, between, third)
            numbers, differs = plan_numbers(last(*calls, behind(0, 1, 2)), len(first))
            lower = math.lcm(*[number.denominator for number in numbers])
            if lower <= HIGHEST:
                taken += 1
                answer = last(*calls, tested(0, 2, lower, [int(number * lower) for number in numbers]))
                self.assertEqual((answer[0], fractions_of(answer[1:])), (1, [differs]))
        self.assertGreater(taken, 2000)


if __name__ == "__main__":
    unittest.main()
