"""The calls apart, plan and test, and what holds of them."""

import itertools
import unittest
from fractions import Fraction

from helper import HIGHEST, LOWEST, NO_SLOTS, apart, ask, begin, chances, distance, everything, fractions_of, last
from helper import lists_of, plan, spread, tested, told, two_spreads, whole_plans

# Spreads of six points: none in common, much in common, ends of the range of weights, sums without a common divisor.
SIX = (
    [1, 0, 0, 0, 0, 0], [0, 0, 0, 0, 0, 1], [1, 1, 1, 1, 1, 1], [20, 20, 20, 20, 20, 20], [1, 2, 3, 4, 5, 6],
    [6, 5, 4, 3, 2, 1], [20, 0, 20, 0, 20, 0], [0, 19, 0, 17, 0, 13], [1, 20, 1, 20, 1, 20], [0, 0, 7, 11, 0, 0],
    [20, 19, 18, 17, 16, 15], [3, 0, 0, 0, 0, 4],
)


def small_pairs():
    """Pairs of spreads of one to three points that have the same sum in whole numbers."""
    for n, total in ((1, 2), (2, 3), (2, 4), (3, 3), (3, 4)):
        yield from itertools.product(lists_of(n, total), repeat=2)


def uneven_pairs():
    """Pairs of spreads of three points, whose sums are not alike."""
    rows = [row for row in itertools.product((0, 1, 3), repeat=3) if sum(row) > 0]
    return itertools.product(rows, repeat=2)


def all_pairs():
    yield from itertools.product(SIX, repeat=2)
    yield from uneven_pairs()
    yield from small_pairs()


def told_plan(first, second):
    """The answer to plan, as fractions: the plan's, and how often it differs."""
    answer = last(*two_spreads(first, second), plan(0, 1))
    found = fractions_of(answer[1:])
    if answer[0] != len(first) ** 2 or len(found) != answer[0] + 1:
        raise AssertionError(f"wrong count: {answer}")
    return found[:-1], found[-1]


def off_diagonal(numbers, n):
    return sum(number for place, number in enumerate(numbers) if place // n != place % n)


class ApartTest(unittest.TestCase):
    def test_ordinary(self):
        calls = two_spreads([1, 2, 3], [3, 2, 1])
        self.assertEqual(last(*calls, apart(0, 1)), [4, 1, 3])
        self.assertEqual(last(*calls, apart(1, 0)), [1, 1, 3])
        self.assertEqual(last(*two_spreads([1, 1, 0, 2], [1, 3, 2, 2]), apart(0, 1)), [9, 3, 8])
        self.assertEqual(last(*two_spreads([1, 1, 0, 2], [1, 3, 2, 2]), apart(1, 0)), [6, 3, 8])

    def test_the_same_spread_twice(self):
        self.assertEqual(last(*two_spreads([1, 2, 3], [1, 2, 3]), apart(0, 1)), [0, 0, 1])
        self.assertEqual(last(*two_spreads([1, 2, 3], [2, 4, 6]), apart(0, 1)), [0, 0, 1])
        self.assertEqual(last(*two_spreads([1, 2, 3], [3, 2, 1]), apart(1, 1)), [0, 0, 1])

    def test_nothing_in_common(self):
        calls = two_spreads([1, 0, 2, 0, 3, 0], [0, 1, 0, 1, 0, 1])
        self.assertEqual(last(*calls, apart(0, 1)), [21, 1, 1])
        self.assertEqual(last(*calls, apart(1, 0)), [42, 1, 1])

    def test_one_point(self):
        self.assertEqual(last(*two_spreads([3], [20]), apart(0, 1)), [0, 0, 1])

    def test_all_slots(self):
        calls = [begin(2), spread(2, [1, 1]), spread(3, [1, 2])]
        self.assertEqual(last(*calls, apart(2, 3)), [1, 1, 6])
        self.assertEqual(last(*calls, apart(3, 2)), [2, 1, 6])
        self.assertEqual(last(*calls, apart(0, 3)), [1, 2, 3])
        self.assertEqual(last(*calls, apart(3, 1)), [2, 2, 3])

    def test_no_slot(self):
        for k in NO_SLOTS:
            self.assertEqual(ask(begin(2), apart(k, 0), apart(0, k), apart(k, k)), [[0], [-2], [-2], [-2]])

    def test_by_the_words(self):
        for first, second in all_pairs():
            more = [one > other for one, other in zip(chances(first), chances(second))]
            there, back = ask(*two_spreads(first, second), apart(0, 1), apart(1, 0))[3:]
            self.assertEqual(there[0], sum(2 ** point for point in range(len(first)) if more[point]))
            self.assertEqual(fractions_of(there[1:]), [distance(first, second)])
            self.assertEqual(there[1:], back[1:])
            self.assertEqual(there[1:] == [0, 1], chances(first) == chances(second))

    def test_no_set_has_more_than_that(self):
        for first, second in uneven_pairs():
            far = fractions_of(last(*two_spreads(first, second), apart(0, 1))[1:])[0]
            more = [one - other for one, other in zip(chances(first), chances(second))]
            sums = [sum(more[point] for point in range(3) if number >> point & 1) for number in range(8)]
            self.assertEqual(max(sums), far)


class PlanTest(unittest.TestCase):
    def test_ordinary(self):
        self.assertEqual(last(*two_spreads([1, 2, 3], [3, 2, 1]), plan(0, 1)),
                         [9, 1, 6, 0, 1, 0, 1, 0, 1, 1, 3, 0, 1, 1, 3, 0, 1, 1, 6, 1, 3])
        self.assertEqual(last(*two_spreads([1, 1], [1, 2]), plan(0, 1)), [4, 1, 3, 1, 6, 0, 1, 1, 2, 1, 6])

    def test_what_is_left_goes_pair_by_pair(self):
        # Left are 1 and 3 by 4 of the first one, 2 and 2 by 4 of the second one.
        self.assertEqual(last(*two_spreads([1, 0, 3, 0], [0, 2, 0, 2]), plan(0, 1)),
                         [16] + [0, 1, 1, 4, 0, 1, 0, 1] + [0, 1] * 4 + [0, 1, 1, 4, 0, 1, 1, 2] + [0, 1] * 4 + [1, 1])

    def test_the_same_spread_twice(self):
        same = [9, 1, 6, 0, 1, 0, 1, 0, 1, 1, 3, 0, 1, 0, 1, 0, 1, 1, 2, 0, 1]
        self.assertEqual(last(*two_spreads([1, 2, 3], [2, 4, 6]), plan(0, 1)), same)
        self.assertEqual(last(*two_spreads([1, 2, 3], [3, 2, 1]), plan(0, 0)), same)

    def test_nothing_in_common(self):
        self.assertEqual(last(*two_spreads([1, 0], [0, 1]), plan(0, 1)), [4, 0, 1, 1, 1, 0, 1, 0, 1, 1, 1])

    def test_one_point(self):
        self.assertEqual(last(*two_spreads([5], [7]), plan(0, 1)), [1, 1, 1, 0, 1])

    def test_no_slot(self):
        for k in NO_SLOTS:
            self.assertEqual(ask(begin(2), plan(k, 0), plan(0, k), plan(k, k)), [[0], [-2], [-2], [-2]])

    def test_it_is_a_plan_and_differs_as_often_as_they_are_far_apart(self):
        for first, second in all_pairs():
            n = len(first)
            numbers, differs = told_plan(first, second)
            self.assertGreaterEqual(min(numbers), 0)
            self.assertEqual([sum(numbers[n * i:n * i + n]) for i in range(n)], chances(first))
            self.assertEqual([sum(numbers[j::n]) for j in range(n)], chances(second))
            self.assertEqual(off_diagonal(numbers, n), differs)
            self.assertEqual(differs, distance(first, second))
            self.assertEqual(numbers[::n + 1], [min(both) for both in zip(chances(first), chances(second))])

    def test_what_is_left_is_planned_by_the_greatest_plan_number_by_number(self):
        for first, second in small_pairs():
            n = len(first)
            shared = [min(both) for both in zip(first, second)]
            expected = whole_plans([one - part for one, part in zip(first, shared)],
                                   [other - part for other, part in zip(second, shared)])[0]
            for point in range(n):
                expected[point * n + point] += shared[point]
            self.assertEqual(told_plan(first, second)[0], [Fraction(number, sum(first)) for number in expected])

    def test_no_plan_differs_less(self):
        for first, second in small_pairs():
            least = min(off_diagonal(numbers, len(first)) for numbers in whole_plans(first, second))
            self.assertEqual(told_plan(first, second)[1], Fraction(least, sum(first)))

    def test_the_test_takes_it(self):
        for first, second in all_pairs():
            lower = sum(first) * sum(second)
            numbers, differs = told_plan(first, second)
            row = [int(number * lower) for number in numbers]
            answer = last(*two_spreads(first, second), tested(0, 1, lower, row))
            self.assertEqual(answer[0], 1)
            self.assertEqual(fractions_of(answer[1:]), [differs])


class TestTest(unittest.TestCase):
    def test_ordinary(self):
        calls = two_spreads([1, 1], [1, 2])
        self.assertEqual(last(*calls, tested(0, 1, 6, [2, 1, 0, 3])), [1, 1, 6])
        self.assertEqual(last(*calls, tested(0, 1, 12, [4, 2, 0, 6])), [1, 1, 6])
        self.assertEqual(last(*calls, tested(0, 1, 6, [1, 2, 1, 2])), [1, 1, 2])
        self.assertEqual(last(*calls, tested(0, 1, 6, [0, 3, 2, 1])), [1, 5, 6])
        self.assertEqual(last(*calls, tested(1, 0, 6, [2, 0, 1, 3])), [1, 1, 6])

    def test_rows_are_the_first_ones_and_columns_the_second_ones(self):
        self.assertEqual(last(*two_spreads([1, 1], [1, 2]), tested(0, 1, 6, [2, 0, 1, 3])), [0])
        self.assertEqual(last(*two_spreads([1, 1], [1, 2]), tested(1, 0, 6, [2, 1, 0, 3])), [0])

    def test_the_same_spread_twice(self):
        calls = two_spreads([1, 2], [2, 4])
        self.assertEqual(last(*calls, tested(0, 1, 3, [1, 0, 0, 2])), [1, 0, 1])
        self.assertEqual(last(*calls, tested(0, 0, 3, [0, 1, 1, 1])), [1, 2, 3])

    def test_nothing_in_common(self):
        calls = two_spreads([1, 0], [0, 1])
        self.assertEqual(last(*calls, tested(0, 1, 5, [0, 5, 0, 0])), [1, 1, 1])
        self.assertEqual(last(*calls, tested(0, 1, 5, [5, 0, 0, 0])), [0])

    def test_one_point(self):
        self.assertEqual(last(*two_spreads([3], [4]), tested(0, 1, 1, [1])), [1, 0, 1])
        self.assertEqual(last(*two_spreads([3], [4]), tested(0, 1, HIGHEST, [HIGHEST])), [1, 0, 1])
        self.assertEqual(last(*two_spreads([3], [4]), tested(0, 1, HIGHEST, [HIGHEST - 1])), [0])
        self.assertEqual(last(*two_spreads([3], [4]), tested(0, 1, 1, [0])), [0])
        self.assertEqual(last(*two_spreads([3], [4]), tested(0, 1, 1, [LOWEST])), [0])

    def test_six_points(self):
        row = [1] * 36
        calls = two_spreads([1] * 6, [20] * 6)
        self.assertEqual(last(*calls, tested(0, 1, 36, row)), [1, 5, 6])
        self.assertEqual(last(*calls, tested(0, 1, 35, row)), [0])

    def test_a_number_below_0(self):
        # Rows and columns are as they should be: only the sign is wrong.
        calls = two_spreads([1, 1], [1, 1])
        self.assertEqual(last(*calls, tested(0, 1, 2, [2, -1, -1, 2])), [0])
        self.assertEqual(last(*calls, tested(0, 1, 2, [-1, 2, 2, -1])), [0])
        three = two_spreads([1, 1, 1], [1, 1, 1])
        self.assertEqual(last(*three, tested(0, 1, 3, [1, 0, 0, 0, 2, -1, 0, -1, 2])), [0])
        self.assertEqual(last(*three, tested(0, 1, 3, [1, 0, 0, 0, 1, 0, 0, 0, 1])), [1, 0, 1])

    def test_no_plan_by_one_row_or_one_column(self):
        calls = two_spreads([1, 1, 1], [1, 1, 1])
        # All columns are as they should be.
        self.assertEqual(last(*calls, tested(0, 1, 3, [1, 0, 0, 0, 1, 1, 0, 0, 0])), [0])
        # All rows are as they should be.
        self.assertEqual(last(*calls, tested(0, 1, 3, [1, 0, 0, 0, 1, 0, 0, 1, 0])), [0])
        # One row alone is wrong, at its end, by the least.
        self.assertEqual(last(*calls, tested(0, 1, 3, [1, 0, 0, 0, 1, 0, 0, 0, 2])), [0])
        self.assertEqual(last(*calls, tested(0, 1, 3, [1, 0, 0, 0, 1, 0, 0, 0, 0])), [0])

    def test_numbers_at_both_ends(self):
        calls = two_spreads([1, 0], [1, 1])
        self.assertEqual(last(*calls, tested(0, 1, HIGHEST - 1, [1073741823, 1073741823, 0, 0])), [1, 1, 2])
        self.assertEqual(last(*calls, tested(0, 1, HIGHEST, [1073741823, 1073741824, 0, 0])), [0])
        self.assertEqual(last(*calls, tested(0, 1, HIGHEST, [HIGHEST, HIGHEST, LOWEST, LOWEST])), [0])
        self.assertEqual(last(*calls, tested(0, 1, 1, [LOWEST] * 4)), [0])

    def test_e_below_1(self):
        for e in (0, -1, -2, LOWEST):
            self.assertEqual(last(*two_spreads([1, 1], [1, 1]), tested(0, 1, e, [1, 0, 0, 1])), [-22])
            self.assertEqual(last(*two_spreads([1, 1], [1, 1]), tested(0, 1, e, [-1, 0, 0, -1])), [-22])
            self.assertEqual(last(begin(1), tested(0, 1, e, [e])), [-22])

    def test_not_n_times_n_numbers(self):
        for n in range(1, 7):
            for length in list(range(0, 38)) + [49, 69, 70]:
                row = ([1] + [0] * 69)[:length]
                expected = [1, 0, 1] if length == n * n else [-22]
                self.assertEqual(last(begin(n), tested(0, 1, 1, row)), expected)

    def test_no_slot_goes_first(self):
        for k in NO_SLOTS:
            for e, row in ((1, [1, 0, 0, 0]), (0, [1, 0, 0, 0]), (1, []), (LOWEST, [HIGHEST] * 70)):
                self.assertEqual(ask(begin(2), tested(k, 0, e, row), tested(0, k, e, row), tested(k, k, e, row)),
                                 [[0], [-2], [-2], [-2]])

    def test_all_whole_plans_and_no_others(self):
        for first, second in itertools.product(lists_of(2, 3), repeat=2):
            plans = whole_plans(first, second)
            rows = list(itertools.product(range(-1, 4), repeat=4))
            for start in range(0, len(rows), 50):
                part = rows[start:start + 50]
                found = ask(*two_spreads(first, second), *[tested(0, 1, 3, row) for row in part])[3:]
                for row, answer in zip(part, found):
                    if list(row) in plans:
                        self.assertEqual(answer[0], 1)
                        self.assertEqual(fractions_of(answer[1:]), [Fraction(row[1] + row[2], 3)])
                    else:
                        self.assertEqual(answer, [0])


class NothingChangesTest(unittest.TestCase):
    def test_asking_and_refusing_leave_the_spreads(self):
        questions = [apart(0, 1), plan(0, 1), tested(0, 1, 6, [2, 1, 0, 3]), tested(0, 1, 6, [0, 0, 0, 0]),
                     apart(0, 4), plan(-1, 0), tested(0, 1, 0, []), tested(4, 1, 0, []), told(1)]
        found = ask(*two_spreads([1, 1], [1, 2]), *everything(), *questions, *everything(), *questions)
        self.assertEqual(found[3:7], [[2, 1, 2, 1, 2], [2, 1, 3, 2, 3], [2, 1, 1, 0, 1], [2, 1, 1, 0, 1]])
        self.assertEqual(found[7:16], [[1, 1, 6], [4, 1, 3, 1, 6, 0, 1, 1, 2, 1, 6], [1, 1, 6], [0],
                                       [-2], [-2], [-22], [-2], [2, 1, 3, 2, 3]])
        self.assertEqual(found[16:20], found[3:7])
        self.assertEqual(found[20:], found[7:16])


if __name__ == "__main__":
    unittest.main()
