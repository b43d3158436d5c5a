"""The exact numbers a + b phi: signs and products, also where a and b are of opposite signs."""

import unittest
from fractions import Fraction

from mirrorwordsdesk.golden import below_zero, less_product
from tests.helper import is_below


class Golden(unittest.TestCase):
    def test_signs_of_small_numbers(self):
        phi = Fraction(16180339887498948482, 10 ** 19)
        for a in range(-60, 61):
            for b in range(-40, 41):
                self.assertEqual(below_zero((a, b)), a + b * phi < 0, (a, b))
                self.assertEqual(below_zero((a, b)), is_below(a, b), (a, b))

    def test_signs_of_numbers_close_to_zero(self):
        # Of two Fibonacci numbers behind one another, the greater less phi times the lesser is by turns
        # above and below 0, and closer to it than any number of digits tells.
        lesser, greater = 1, 1
        below = True
        for _ in range(400):
            self.assertEqual(below_zero((greater, -lesser)), below)
            self.assertEqual(below_zero((-greater, lesser)), not below)
            lesser, greater = greater, lesser + greater
            below = not below

    def test_zero_is_not_below_itself(self):
        self.assertFalse(below_zero((0, 0)))

    def test_products(self):
        self.assertEqual(less_product((0, 0), (0, -1), (0, 1)), (1, 1))
        self.assertEqual(less_product((5, 7), (2, 0), (3, 4)), (-1, -1))
        self.assertEqual(less_product((5, 7), (0, -1), (3, 4)), (9, 14))
        self.assertEqual(less_product((5, 7), (2, 3), (3, 4)), (-13, -22))


if __name__ == "__main__":
    unittest.main()
