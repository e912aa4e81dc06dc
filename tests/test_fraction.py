"""How a fraction is told."""

import unittest

from throwntogether.fraction import least_multiple, told_fraction, told_fractions


class FractionTest(unittest.TestCase):
    def test_nothing_in_common(self):
        self.assertEqual(told_fraction(6, 4), [3, 2])
        self.assertEqual(told_fraction(4, 6), [2, 3])
        self.assertEqual(told_fraction(7, 5), [7, 5])
        self.assertEqual(told_fraction(12, 4), [3, 1])
        self.assertEqual(told_fraction(9, 9), [1, 1])

    def test_none_is_0_1(self):
        self.assertEqual(told_fraction(0, 1), [0, 1])
        self.assertEqual(told_fraction(0, 120), [0, 1])

    def test_below_0_the_upper_one_has_the_sign(self):
        self.assertEqual(told_fraction(-6, 4), [-3, 2])
        self.assertEqual(told_fraction(-4, 6), [-2, 3])

    def test_many_figures(self):
        self.assertEqual(told_fraction(6 * 10 ** 40, 4 * 10 ** 40 + 4), [15 * 10 ** 39, 10 ** 40 + 1])

    def test_one_behind_another(self):
        self.assertEqual(told_fractions([2, 0, 4, 3], 4), [1, 2, 0, 1, 1, 1, 3, 4])
        self.assertEqual(told_fractions([], 4), [])

    def test_least_multiple(self):
        self.assertEqual(least_multiple([4, 6, 10]), 60)
        self.assertEqual(least_multiple([7]), 7)
        self.assertEqual(least_multiple([5, 5, 1]), 5)
        self.assertEqual(least_multiple([]), 1)


if __name__ == "__main__":
    unittest.main()
