"""The calls give, image, mix, same and set, and what holds of images and mixtures."""

import itertools
import unittest
from fractions import Fraction

from helper import HIGHEST, LOWEST, NO_SLOTS, apart, ask, begin, chances, everything, fractions_of, give, image, in_set
from helper import last, mix, same, spread, told, two_spreads

ROWS = [row for row in itertools.product((0, 1, 3), repeat=3) if sum(row) > 0]


def told_chances(answer):
    """The answer to told, as fractions."""
    found = fractions_of(answer[1:])
    if len(found) != answer[0]:
        raise AssertionError(f"wrong count: {answer}")
    return found


def far(answer):
    """How far apart two spreads are, by the answer to apart."""
    return fractions_of(answer[1:])[0]


class GiveTest(unittest.TestCase):
    def test_ordinary(self):
        found = ask(begin(2), spread(1, [1, 2]), give(1, 3), *everything())[2:]
        self.assertEqual(found, [[0], [2, 1, 1, 0, 1], [2, 1, 3, 2, 3], [2, 1, 1, 0, 1], [2, 1, 3, 2, 3]])

    def test_to_itself(self):
        self.assertEqual(ask(begin(2), spread(1, [1, 2]), give(1, 1), told(1))[2:], [[0], [2, 1, 3, 2, 3]])

    def test_one_point(self):
        self.assertEqual(ask(begin(1), spread(0, [7]), give(0, 1), told(1))[2:], [[0], [1, 1, 1]])

    def test_it_takes_an_earlier_ones_place(self):
        calls = two_spreads([1, 2], [1, 3])
        self.assertEqual(ask(*calls, give(0, 1), told(0), told(1))[3:], [[0], [2, 1, 3, 2, 3], [2, 1, 3, 2, 3]])

    def test_no_slot(self):
        for k in NO_SLOTS:
            found = ask(begin(2), spread(0, [1, 2]), give(k, 0), give(0, k), give(k, k), told(0))
            self.assertEqual(found[2:], [[-2], [-2], [-2], [2, 1, 3, 2, 3]])

    def test_each_stays_when_the_other_is_changed(self):
        changes = (spread(0, [1, 1, 1]), image(0, 0, [1, 2, 0]), mix(0, 2, 0, 1, 2), give(2, 0))
        for change in changes:
            calls = [begin(3), spread(0, [1, 2, 3]), give(0, 1), change, told(1), same(0, 1)]
            self.assertEqual(ask(*calls)[2:], [[0], [0], [3, 1, 6, 1, 3, 1, 2], [0]])
            back = [begin(3), spread(1, [1, 2, 3]), give(1, 0), change, told(1), same(0, 1)]
            self.assertEqual(ask(*back)[2:], [[0], [0], [3, 1, 6, 1, 3, 1, 2], [0]])


class ImageTest(unittest.TestCase):
    def test_ordinary(self):
        calls = [begin(3), spread(0, [1, 2, 3])]
        self.assertEqual(ask(*calls, image(0, 1, [1, 2, 0]), told(1))[2:], [[0], [3, 1, 2, 1, 6, 1, 3]])
        self.assertEqual(ask(*calls, image(0, 1, [2, 2, 1]), told(1))[2:], [[0], [3, 0, 1, 1, 2, 1, 2]])
        self.assertEqual(ask(*calls, image(0, 1, [0, 1, 2]), told(1))[2:], [[0], [3, 1, 6, 1, 3, 1, 2]])

    def test_the_first_slot_stays(self):
        found = ask(begin(2), spread(0, [1, 2]), image(0, 3, [1, 0]), *everything())[3:]
        self.assertEqual(found, [[2, 1, 3, 2, 3], [2, 1, 1, 0, 1], [2, 1, 1, 0, 1], [2, 2, 3, 1, 3]])

    def test_to_itself(self):
        found = ask(begin(3), spread(2, [1, 2, 3]), image(2, 2, [1, 2, 0]), told(2), image(2, 2, [1, 1, 1]), told(2))
        self.assertEqual(found[2:], [[0], [3, 1, 2, 1, 6, 1, 3], [0], [3, 0, 1, 1, 1, 0, 1]])

    def test_all_on_one_point(self):
        for n in range(1, 7):
            for point in range(n):
                sure = [0, 1] * point + [1, 1] + [0, 1] * (n - 1 - point)
                found = ask(begin(n), spread(0, range(1, n + 1)), image(0, 1, [point] * n), told(1))
                self.assertEqual(found[2:], [[0], [n] + sure])

    def test_one_point(self):
        self.assertEqual(ask(begin(1), image(0, 1, [0]), told(1)), [[0], [0], [1, 1, 1]])
        self.assertEqual(last(begin(1), image(0, 1, [1])), [-22])

    def test_it_stays_when_the_first_one_is_changed(self):
        for change in (spread(0, [1, 1, 1]), image(0, 0, [1, 2, 0]), mix(0, 2, 0, 1, 2), give(2, 0)):
            for row, expected in (([0, 1, 2], [3, 1, 6, 1, 3, 1, 2]), ([1, 1, 0], [3, 1, 2, 1, 2, 0, 1])):
                calls = [begin(3), spread(0, [1, 2, 3]), image(0, 1, row), change, told(1)]
                self.assertEqual(ask(*calls)[2:], [[0], [0], expected])

    def test_not_a_point_for_each_point(self):
        for n in range(1, 7):
            for length in list(range(0, 9)) + [36, 70]:
                expected = [0] if length == n else [-22]
                self.assertEqual(last(begin(n), image(0, 1, [0] * length)), expected)

    def test_no_points(self):
        for n in range(1, 7):
            self.assertEqual(last(begin(n), image(0, 1, [n - 1] * n)), [0])
            for point in (-1, n, n + 1, LOWEST, HIGHEST):
                for place in range(n):
                    row = [0] * n
                    row[place] = point
                    self.assertEqual(last(begin(n), image(0, 1, row)), [-22])

    def test_a_number_too_many_is_not_made_good_by_a_wrong_one(self):
        self.assertEqual(last(begin(2), image(0, 1, [0, 1, 2])), [-22])
        self.assertEqual(last(begin(2), image(0, 1, [-1, 0, 1])), [-22])

    def test_a_refusal_changes_nothing(self):
        for row in ([], [1], [1, 1, 1], [1, 2], [-1, 1], [1] * 70):
            found = ask(*two_spreads([1, 2], [1, 3]), image(0, 1, row), image(0, 0, row), told(0), told(1))[3:]
            self.assertEqual(found, [[-22], [-22], [2, 1, 3, 2, 3], [2, 1, 4, 3, 4]])

    def test_no_slot_goes_first(self):
        for k in NO_SLOTS:
            for row in ([0, 1], [], [0], [2, 0], [LOWEST, HIGHEST] * 35):
                found = ask(begin(2), image(k, 0, row), image(0, k, row), image(k, k, row), told(0))
                self.assertEqual(found[1:], [[-2], [-2], [-2], [2, 1, 1, 0, 1]])

    def test_by_the_words(self):
        for row in ROWS:
            for targets in itertools.product(range(3), repeat=3):
                expected = [Fraction(0)] * 3
                for point in range(3):
                    expected[targets[point]] += chances(row)[point]
                self.assertEqual(told_chances(last(begin(3), spread(0, row), image(0, 1, targets), told(1))), expected)

    def test_images_are_no_farther_apart(self):
        for first, second in itertools.product(ROWS[::3], repeat=2):
            for targets in itertools.product(range(3), repeat=3):
                found = ask(*two_spreads(first, second), image(0, 2, targets), image(1, 3, targets),
                            apart(0, 1), apart(2, 3))
                self.assertLessEqual(far(found[-1]), far(found[-2]))
                if len(set(targets)) == 3:
                    self.assertEqual(far(found[-1]), far(found[-2]))


class MixTest(unittest.TestCase):
    def test_ordinary(self):
        calls = two_spreads([1, 1], [1, 2])
        self.assertEqual(ask(*calls, mix(0, 1, 2, 1, 3), told(2))[3:], [[0], [2, 7, 18, 11, 18]])
        self.assertEqual(ask(*calls, mix(1, 0, 2, 1, 3), told(2))[3:], [[0], [2, 4, 9, 5, 9]])
        self.assertEqual(ask(*calls, mix(0, 1, 2, 2, 4), told(2))[3:], [[0], [2, 5, 12, 7, 12]])

    def test_none_and_all_of_the_first_one(self):
        calls = two_spreads([1, 1], [1, 2])
        for b in range(1, 21):
            self.assertEqual(ask(*calls, mix(0, 1, 2, 0, b), told(2))[3:], [[0], [2, 1, 3, 2, 3]])
            self.assertEqual(ask(*calls, mix(0, 1, 2, b, b), told(2))[3:], [[0], [2, 1, 2, 1, 2]])

    def test_the_others_stay(self):
        found = ask(*two_spreads([1, 1], [1, 2]), mix(0, 1, 3, 1, 2), *everything())[4:]
        self.assertEqual(found, [[2, 1, 2, 1, 2], [2, 1, 3, 2, 3], [2, 1, 1, 0, 1], [2, 5, 12, 7, 12]])

    def test_into_one_of_both(self):
        calls = two_spreads([1, 0], [0, 1])
        self.assertEqual(ask(*calls, mix(0, 1, 0, 1, 3), told(0), told(1))[4:], [[2, 1, 3, 2, 3], [2, 0, 1, 1, 1]])
        self.assertEqual(ask(*calls, mix(0, 1, 1, 1, 3), told(0), told(1))[4:], [[2, 1, 1, 0, 1], [2, 1, 3, 2, 3]])

    def test_the_same_spread_twice(self):
        calls = two_spreads([1, 2, 3], [2, 4, 6])
        self.assertEqual(ask(*calls, mix(0, 1, 2, 7, 19), told(2), same(0, 2))[3:], [[0], [3, 1, 6, 1, 3, 1, 2], [1]])
        self.assertEqual(ask(*calls, mix(0, 0, 0, 7, 19), told(0))[3:], [[0], [3, 1, 6, 1, 3, 1, 2]])

    def test_nothing_in_common(self):
        self.assertEqual(last(*two_spreads([1, 0, 2, 0], [0, 1, 0, 1]), mix(0, 1, 2, 1, 4), told(2)),
                         [4, 1, 12, 3, 8, 1, 6, 3, 8])

    def test_one_point(self):
        self.assertEqual(ask(begin(1), mix(0, 1, 2, 1, 20), told(2))[1:], [[0], [1, 1, 1]])

    def test_it_stays_when_both_others_are_changed(self):
        calls = two_spreads([1, 1], [1, 2])
        for k in (0, 1):
            for change in (spread(k, [5, 3]), image(k, k, [1, 0]), mix(k, 3, k, 1, 2), give(3, k)):
                for part, expected in ((1, [2, 7, 18, 11, 18]), (0, [2, 1, 3, 2, 3]), (3, [2, 1, 2, 1, 2])):
                    self.assertEqual(ask(*calls, mix(0, 1, 2, part, 3), change, told(2))[3:], [[0], [0], expected])

    def test_wrong_numbers(self):
        for b in (0, -1, 21, LOWEST, HIGHEST):
            for a in (0, 1, b, -1):
                self.assertEqual(last(begin(2), mix(0, 1, 2, a, b)), [-22])
        for b in (1, 2, 19, 20):
            self.assertEqual(ask(begin(2), mix(0, 1, 2, 0, b), mix(0, 1, 2, b, b)), [[0]] * 3)
            for a in (-1, b + 1, LOWEST, HIGHEST):
                self.assertEqual(last(begin(2), mix(0, 1, 2, a, b)), [-22])

    def test_a_refusal_changes_nothing(self):
        for a, b in ((0, 0), (1, 21), (-1, 2), (3, 2), (LOWEST, HIGHEST)):
            refused = [mix(0, 1, 0, a, b), mix(0, 1, 1, a, b), mix(0, 1, 2, a, b)]
            found = ask(*two_spreads([1, 2], [1, 3]), *refused, *everything())[3:]
            self.assertEqual(found, [[-22]] * 3 + [[2, 1, 3, 2, 3], [2, 1, 4, 3, 4], [2, 1, 1, 0, 1], [2, 1, 1, 0, 1]])

    def test_no_slot_goes_first(self):
        for k in NO_SLOTS:
            for a, b in ((1, 2), (1, 0), (3, 2), (LOWEST, HIGHEST)):
                found = ask(begin(2), mix(k, 0, 1, a, b), mix(0, k, 1, a, b), mix(0, 1, k, a, b), mix(k, k, k, a, b))
                self.assertEqual(found[1:], [[-2]] * 4)

    def test_by_the_words(self):
        for first, second in itertools.product(ROWS[::2], repeat=2):
            for a, b in ((0, 1), (1, 1), (1, 2), (3, 7), (2, 20), (19, 20)):
                expected = [Fraction(a, b) * one + Fraction(b - a, b) * other
                            for one, other in zip(chances(first), chances(second))]
                self.assertEqual(told_chances(last(*two_spreads(first, second), mix(0, 1, 2, a, b), told(2))), expected)

    def test_mixtures_are_as_much_less_apart(self):
        for first, second in itertools.product(ROWS[::2], repeat=2):
            for a, b in ((0, 1), (1, 1), (1, 2), (3, 7), (19, 20)):
                found = ask(*two_spreads(first, second), apart(0, 1), mix(0, 1, 2, a, b), apart(2, 1), apart(0, 2))
                self.assertEqual(far(found[-2]), far(found[3]) * Fraction(a, b))
                self.assertEqual(far(found[-1]), far(found[3]) * Fraction(b - a, b))
                third = ask(*two_spreads(first, second), spread(2, [5, 1, 2]), apart(0, 1), mix(0, 2, 3, a, b),
                            mix(1, 2, 2, a, b), apart(3, 2))
                self.assertEqual(far(third[-1]), far(third[4]) * Fraction(a, b))


class SameTest(unittest.TestCase):
    def test_ordinary(self):
        self.assertEqual(last(*two_spreads([1, 2, 3], [3, 2, 1]), same(0, 1)), [0])
        self.assertEqual(last(*two_spreads([1, 2, 3], [1, 2, 3]), same(0, 1)), [1])
        self.assertEqual(last(*two_spreads([1, 2, 3], [2, 4, 6]), same(0, 1)), [1])
        self.assertEqual(last(*two_spreads([1, 2, 3], [1, 2, 4]), same(0, 1)), [0])
        self.assertEqual(last(*two_spreads([1, 2, 3], [3, 2, 1]), same(1, 1)), [1])

    def test_nothing_in_common(self):
        self.assertEqual(last(*two_spreads([1, 0], [0, 1]), same(0, 1)), [0])

    def test_one_point(self):
        self.assertEqual(last(*two_spreads([3], [20]), same(0, 1)), [1])

    def test_new_slots_are_the_same(self):
        for k, l in itertools.product(range(4), repeat=2):
            self.assertEqual(last(begin(6), same(k, l)), [1])

    def test_made_in_other_ways(self):
        found = ask(begin(2), spread(0, [1, 1]), spread(1, [0, 1]), mix(2, 1, 2, 1, 2), same(0, 2), give(1, 3),
                    same(3, 1), image(1, 1, [1, 0]), same(3, 1), image(1, 1, [1, 0]), same(3, 1))
        self.assertEqual(found[4:], [[1], [0], [1], [0], [0], [0], [1]])

    def test_no_slot(self):
        for k in NO_SLOTS:
            self.assertEqual(ask(begin(2), same(k, 0), same(0, k), same(k, k)), [[0], [-2], [-2], [-2]])

    def test_just_if_not_apart(self):
        for first, second in itertools.product(ROWS, repeat=2):
            found = ask(*two_spreads(first, second), apart(0, 1), same(0, 1), same(1, 0))
            self.assertEqual(found[4], [1 if chances(first) == chances(second) else 0])
            self.assertEqual(found[4], [1 if found[3] == [0, 0, 1] else 0])
            self.assertEqual(found[4], found[5])


class SetTest(unittest.TestCase):
    def test_ordinary(self):
        calls = [begin(3), spread(0, [1, 2, 3])]
        expected = ([0, 1], [1, 6], [1, 3], [1, 2], [1, 2], [2, 3], [5, 6], [1, 1])
        for s in range(8):
            self.assertEqual(last(*calls, in_set(0, s)), [0] + expected[s])

    def test_none_and_all(self):
        for n in range(1, 7):
            calls = [begin(n), spread(3, range(n, 0, -1))]
            self.assertEqual(ask(*calls, in_set(3, 0), in_set(3, 2 ** n - 1))[2:], [[0, 0, 1], [0, 1, 1]])

    def test_points_without_chance(self):
        calls = [begin(6), spread(1, [0, 5, 0, 0, 15, 0])]
        self.assertEqual(ask(*calls, in_set(1, 45), in_set(1, 18), in_set(1, 2), in_set(1, 16))[2:],
                         [[0, 0, 1], [0, 1, 1], [0, 1, 4], [0, 3, 4]])

    def test_no_set(self):
        for n in range(1, 7):
            for s in (-1, -2, 2 ** n, 2 ** n + 1, 64, LOWEST, HIGHEST):
                self.assertEqual(last(begin(n), in_set(0, s)), [-22])

    def test_no_slot_goes_first(self):
        for k in NO_SLOTS:
            for s in (0, 3, 4, -1, LOWEST, HIGHEST):
                self.assertEqual(last(begin(2), in_set(k, s)), [-2])

    def test_by_the_words(self):
        for row in ROWS:
            for s in range(8):
                expected = sum((chances(row)[point] for point in range(3) if s >> point & 1), Fraction(0))
                answer = last(begin(3), spread(0, row), in_set(0, s))
                self.assertEqual((answer[0], fractions_of(answer[1:])), (0, [expected]))

    def test_the_set_that_apart_tells_has_that_much_more(self):
        for first, second in itertools.product(ROWS, repeat=2):
            answer = last(*two_spreads(first, second), apart(0, 1))
            one, other = ask(*two_spreads(first, second), in_set(0, answer[0]), in_set(1, answer[0]))[3:]
            self.assertEqual(fractions_of(one[1:])[0] - fractions_of(other[1:])[0], far(answer))


class NothingChangesTest(unittest.TestCase):
    def test_asking_and_refusing_leave_the_spreads(self):
        questions = [same(0, 1), same(0, 0), in_set(1, 2), in_set(1, 4), in_set(4, 4), same(-1, 0), give(0, 4),
                     give(-1, 1), image(0, 1, [0]), image(0, 1, [0, 2]), image(4, 1, [0, 1]), mix(0, 1, 1, 2, 1),
                     mix(0, 1, 4, 1, 2)]
        found = ask(*two_spreads([1, 1], [1, 2]), *everything(), *questions, *everything(), *questions)
        self.assertEqual(found[3:7], [[2, 1, 2, 1, 2], [2, 1, 3, 2, 3], [2, 1, 1, 0, 1], [2, 1, 1, 0, 1]])
        self.assertEqual(found[7:20], [[0], [1], [0, 2, 3], [-22], [-2], [-2], [-2], [-2], [-22], [-22], [-2], [-22],
                                       [-2]])
        self.assertEqual(found[20:24], found[3:7])
        self.assertEqual(found[24:], found[7:20])


if __name__ == "__main__":
    unittest.main()
