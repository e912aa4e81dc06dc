"""Mixed again and again: spreads whose lower numbers are big, up to the refusal -75."""

import unittest
from fractions import Fraction

from helper import LOWEST, NO_SLOTS, apart, ask, begin, behind, by_the_words, everything, fractions_of, give, image
from helper import in_set, last, mix, plan, same, spread, tested, told, two_spreads

LIMIT = 10 ** 30


def mixed_down(wholes, k=0, sure=1):
    """The calls that take one by each of these numbers of slot k, one behind another, the rest of slot sure."""
    return [mix(k, sure, k, 1, whole) for whole in wholes]


def tenths(count):
    """Slot 0 has point 1 once in 10 to the power of count, slot 1 has surely point 0."""
    return [begin(2), spread(0, [0, 1])] + mixed_down([10] * count)


def far_apart_pairs():
    """Slot 0 has the points 0 and 2 by 2 * 19 ** 23, and 1 and 3 by 2 * 17 ** 23: each is below the limit."""
    calls = [begin(4), spread(0, [0, 0, 1, 0])] + mixed_down([19] * 23)
    calls = calls + [spread(1, [0, 1, 0, 0]), spread(2, [0, 0, 0, 1])] + mixed_down([17] * 23, k=2)
    return calls + [mix(0, 2, 0, 1, 2)]


class LimitTest(unittest.TestCase):
    def test_up_to_the_limit(self):
        found = ask(*tenths(30), told(0))
        self.assertEqual(found[:-2], [[0]] * 31)
        self.assertEqual(found[-2:], [[-75], [2, 10 ** 29 - 1, 10 ** 29, 1, 10 ** 29]])

    def test_every_step_is_told(self):
        for count in range(30):
            upper = 10 ** count - 1
            first = [upper, 10 ** count] if upper > 0 else [0, 1]
            self.assertEqual(last(*tenths(count), told(0)), [2] + first + [1, 10 ** count])

    def test_just_the_limit_is_too_much_and_less_is_not(self):
        calls = tenths(29)
        for b in range(1, 21):
            expected = [0] if b < 10 else [-75]
            self.assertEqual(last(*calls, mix(0, 1, 0, 1, b)), expected)
            self.assertEqual(last(*calls, mix(0, 1, 3, 1, b)), expected)
            self.assertEqual(last(*calls, mix(1, 0, 3, b - 1, b)), expected)

    def test_a_lower_number_little_below_the_limit(self):
        wholes = [19] * 7 + [13] * 8 + [11] * 6 + [7, 9, 3, 16, 16, 16]
        lower = 999999742605249070655470596096
        found = ask(begin(2), spread(0, [0, 1]), *mixed_down(wholes), told(0), mix(0, 1, 0, 1, 2), told(0))
        self.assertEqual(found[:-3], [[0]] * 29)
        self.assertEqual(found[-3:], [[2, lower - 1, lower, 1, lower], [-75], [2, lower - 1, lower, 1, lower]])

    def test_a_refusal_changes_nothing(self):
        calls = tenths(29)
        refused = [mix(0, 1, 0, 1, 10), mix(0, 1, 1, 1, 10), mix(1, 0, 2, 9, 10), mix(0, 1, 3, 1, 20)]
        found = ask(*calls, *everything(), *refused, *everything())[31:]
        self.assertEqual(found[4:8], [[-75]] * 4)
        self.assertEqual(found[8:], found[:4])
        self.assertEqual(found[:4], [[2, 10 ** 29 - 1, 10 ** 29, 1, 10 ** 29]] + [[2, 1, 1, 0, 1]] * 3)

    def test_the_other_refusals_go_first(self):
        calls = tenths(29)
        for a, b in ((1, 0), (1, 21), (-1, 20), (21, 20), (LOWEST, 10)):
            self.assertEqual(last(*calls, mix(0, 1, 0, a, b)), [-22])
        for k in NO_SLOTS:
            found = ask(*calls, mix(0, 1, k, 1, 20), mix(0, k, 1, 1, 20), mix(k, 0, 1, 1, 21))[31:]
            self.assertEqual(found, [[-2]] * 3)

    def test_going_on_after_a_refusal(self):
        found = ask(*tenths(30), mix(0, 1, 0, 1, 2), told(0), mix(0, 1, 0, 0, 20), told(0), mix(0, 1, 0, 1, 10))[31:]
        self.assertEqual(found, [[-75], [0], [2, 2 * 10 ** 29 - 1, 2 * 10 ** 29, 1, 2 * 10 ** 29], [0],
                                 [2, 1, 1, 0, 1], [0]])

    def test_one_point_is_never_too_fine(self):
        self.assertEqual(ask(begin(1), *mixed_down([20] * 58), told(0)), [[0]] * 59 + [[1, 1, 1]])

    def test_a_point_without_chance_has_the_lower_number_1(self):
        found = ask(begin(3), spread(0, [0, 0, 1]), *mixed_down([20] * 23), told(0), mix(0, 1, 0, 1, 2))
        self.assertEqual(found[-2:], [[3, 20 ** 23 - 1, 20 ** 23, 0, 1, 1, 20 ** 23], [-75]])


class NothingInCommonTest(unittest.TestCase):
    def test_the_same_spread_is_not_finer(self):
        found = ask(*tenths(29), mix(0, 0, 2, 1, 20), same(0, 2), mix(0, 2, 3, 7, 19), same(0, 3))[31:]
        self.assertEqual(found, [[0], [1], [0], [1]])

    def test_all_or_none_of_one(self):
        found = ask(*tenths(29), mix(0, 1, 2, 20, 20), same(0, 2), mix(1, 0, 3, 0, 20), same(0, 3))[31:]
        self.assertEqual(found, [[0], [1], [0], [1]])

    def test_what_both_numbers_have_in_common_does_not_count(self):
        # One and three by 20 ** 23: half of both is four by twice that, which is more than the limit, but told by less.
        calls = [begin(2), spread(0, [0, 1]), spread(2, [0, 1])] + mixed_down([20] * 23)
        calls = calls + [mix(2, 1, 2, 3, 20)] + mixed_down([20] * 22, k=2)
        self.assertGreater(2 * 20 ** 23, LIMIT)
        found = ask(*calls, told(2), mix(0, 2, 3, 1, 2), told(3), mix(0, 1, 3, 1, 2), told(3))[len(calls):]
        lower = 10 * 20 ** 22
        self.assertEqual(found[0], [2, 20 ** 23 - 3, 20 ** 23, 3, 20 ** 23])
        self.assertEqual(found[1:], [[0], [2, lower - 1, lower, 1, lower], [-75], [2, lower - 1, lower, 1, lower]])

    def test_each_chance_counts_by_itself(self):
        # Together the four chances need a lower number far above the limit, but none of them does.
        found = ask(*far_apart_pairs(), told(0))
        self.assertEqual(found[:-1], [[0]] * 51)
        first, second = 2 * 19 ** 23, 2 * 17 ** 23
        self.assertEqual(fractions_of(found[-1][1:]), [Fraction(19 ** 23 - 1, first), Fraction(17 ** 23 - 1, second),
                                                       Fraction(1, first), Fraction(1, second)])

    def test_one_chance_alone_above_the_limit(self):
        calls = far_apart_pairs()
        # 17 ** 23 may be taken further still, 19 ** 23 may not: one of both decides.
        self.assertLess(2 * 17 ** 23 * 4, LIMIT)
        self.assertGreater(2 * 19 ** 23 * 4, LIMIT)
        found = ask(*calls, mix(0, 3, 2, 1, 4), image(0, 2, [3, 1, 3, 1]), mix(2, 3, 2, 1, 4))[len(calls):]
        self.assertEqual(found, [[-75], [0], [0]])

    def test_an_image_is_not_refused(self):
        calls = far_apart_pairs()
        made = [image(0, 1, [0, 0, 1, 1]), told(1), mix(1, 1, 2, 1, 1), mix(1, 3, 2, 0, 1), give(1, 2), same(1, 2)]
        found = ask(*calls, *made)[len(calls):]
        chances = fractions_of(found[1][1:])
        self.assertEqual(chances[1], Fraction(1, 2 * 19 ** 23) + Fraction(1, 2 * 17 ** 23))
        self.assertGreater(chances[1].denominator, LIMIT)
        # All of a spread that is too fine is too fine to be mixed, none of it is not.
        self.assertEqual([found[0]] + found[2:], [[0], [-75], [0], [0], [1]])


class BigNumbersTest(unittest.TestCase):
    def test_told_same_apart_and_set(self):
        ten = 10 ** 29
        found = ask(*tenths(29), give(0, 2), mix(0, 1, 3, 1, 7), same(0, 2), same(0, 3), same(3, 1), apart(0, 1),
                    apart(1, 0), apart(0, 3), apart(0, 2), in_set(0, 0), in_set(0, 1), in_set(0, 2), in_set(0, 3),
                    in_set(0, 4), told(3))[33:]
        # Once and one seventh of once in that many differ by three in 35 tenths of it.
        self.assertEqual(found[:7], [[1], [0], [0], [2, 1, ten], [1, 1, ten], [2, 3, 35 * ten // 10], [0, 0, 1]])
        self.assertEqual(found[7:], [[0, 0, 1], [0, ten - 1, ten], [0, 1, ten], [0, 1, 1], [-22],
                                     [2, 7 * ten - 1, 7 * ten, 1, 7 * ten]])

    def test_plan(self):
        ten = 10 ** 29
        found = ask(*tenths(29), plan(0, 1), plan(1, 0), plan(0, 0))[31:]
        self.assertEqual(found[0], [4, ten - 1, ten, 0, 1, 1, ten, 0, 1, 1, ten])
        self.assertEqual(found[1], [4, ten - 1, ten, 1, ten, 0, 1, 0, 1, 1, ten])
        self.assertEqual(found[2], [4, ten - 1, ten, 0, 1, 0, 1, 1, ten, 0, 1])

    def test_no_numbers_by_e_are_its_plan(self):
        found = ask(*tenths(29), tested(0, 1, 2147483647, [2147483647, 0, 0, 0]),
                    tested(0, 1, 2147483647, [2147483646, 0, 1, 0]), tested(1, 1, 1, [1, 0, 0, 0]))[31:]
        self.assertEqual(found, [[0], [0], [1, 0, 1]])

    def test_behind(self):
        ten = 10 ** 29
        # Over the one that's fine: its point 1 comes of point 0 and goes back to it.
        found = ask(*tenths(29), behind(1, 0, 1), behind(0, 1, 0), spread(2, [1, 1]), behind(2, 0, 1))[31:]
        self.assertEqual(found[0], [4, 1, 1] + [0, 1] * 3 + [0, 1])
        square = ten * ten
        mixed = [(ten - 1) * (ten - 1), square, ten - 1, square]
        self.assertEqual(found[1], [4] + mixed + mixed[2:] + [1, square, ten - 1, square // 2])
        self.assertEqual(found[3], [4, 1, 2, 0, 1, 1, 2, 0, 1, 1, 2])

    def test_by_the_words(self):
        calls = far_apart_pairs()
        asked = [told(0), told(2), plan(0, 2), behind(0, 2, 0), behind(2, 0, 1), behind(1, 0, 2), apart(0, 2),
                 in_set(0, 5)]
        self.assertEqual(ask(*calls, *asked), by_the_words(*calls, *asked))
        made = [image(0, 1, [0, 0, 1, 1]), plan(0, 1), behind(0, 1, 2), behind(2, 1, 0), behind(1, 0, 2),
                apart(1, 0), in_set(1, 2), same(0, 1)]
        self.assertEqual(ask(*calls, *made), by_the_words(*calls, *made))

    def test_to_and_fro(self):
        # Each of both is mixed into the other one, so that the numbers would double their figures each time.
        calls = two_spreads([3, 1, 4, 1, 5, 9], [2, 7, 1, 8, 2, 8])
        for turn in range(27):
            calls = calls + [mix(0, 1, 2, 3, 7), mix(1, 0, turn % 2, 1, 2)]
        calls = calls + [plan(0, 1), behind(0, 1, 2), behind(2, 0, 1)]
        self.assertEqual(ask(*calls), by_the_words(*calls))

    def test_mixed_with_itself_all_the_time(self):
        calls = two_spreads([3, 1, 4, 1, 5, 9], [1] * 6) + [mix(0, 0, 0, 3, 7)] * 56
        self.assertEqual(ask(*calls, told(0))[-2:], [[0], [6, 3, 23, 1, 23, 4, 23, 1, 23, 5, 23, 9, 23]])


if __name__ == "__main__":
    unittest.main()
