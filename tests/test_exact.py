import itertools
import unittest
from fractions import Fraction

from helper import as_fraction, check_fraction, same_fraction
from threadlathe.exact import difference, is_less, least_terms, product, quotient, remainder, sum_of

GREAT = 10 ** 60

# Both signs, nought, whole numbers, and fractions that are not in least terms.
SMALL = [(top, bottom) for top in range(-7, 8) for bottom in (1, 2, 3, 4, 6, 9)]

# At the bound that the document tells, near to it, and with great divisors in common.
LARGE = [
    (GREAT, 1),
    (-GREAT, 1),
    (1, GREAT),
    (-1, GREAT),
    (GREAT, GREAT),
    (-GREAT, GREAT),
    (GREAT - 1, GREAT),
    (1 - GREAT, GREAT),
    (GREAT, GREAT - 1),
    (-GREAT, GREAT - 1),
    (GREAT - 1, GREAT - 2),
    (6 ** 40, 10 ** 31),
    (-(6 ** 40), 10 ** 31),
    (2 ** 199, 2 ** 197),
    (0, GREAT),
    (0, 1),
    (3, 7),
    (-14, 6),
]

OPERATIONS = (
    (sum_of, lambda a, b: a + b),
    (difference, lambda a, b: a - b),
    (product, lambda a, b: a * b),
)


def pairs_of(fractions):
    return itertools.product(fractions, repeat=2)


class LeastTermsTest(unittest.TestCase):
    def test_the_documents_examples(self):
        self.assertEqual(least_terms(2, -4), (-1, 2))
        self.assertEqual(least_terms(1, 2), (1, 2))
        self.assertEqual(least_terms(-2, 1), (-2, 1))
        self.assertEqual(least_terms(0, 1), (0, 1))

    def test_nought_is_nought_over_one(self):
        for bottom in (1, -1, 2, -2, 7, -12, GREAT, -GREAT):
            with self.subTest(bottom):
                check_fraction(self, least_terms(0, bottom))
                self.assertEqual(least_terms(0, bottom), (0, 1))

    def test_both_signs_of_top_and_bottom(self):
        self.assertEqual(least_terms(6, 4), (3, 2))
        self.assertEqual(least_terms(-6, 4), (-3, 2))
        self.assertEqual(least_terms(6, -4), (-3, 2))
        self.assertEqual(least_terms(-6, -4), (3, 2))

    def test_whole_numbers_and_bottoms_of_one(self):
        self.assertEqual(least_terms(5, 1), (5, 1))
        self.assertEqual(least_terms(5, -1), (-5, 1))
        self.assertEqual(least_terms(12, 4), (3, 1))
        self.assertEqual(least_terms(4, 4), (1, 1))
        self.assertEqual(least_terms(-4, 4), (-1, 1))

    def test_all_small_tops_and_bottoms(self):
        for top in range(-30, 31):
            for bottom in range(-30, 31):
                if bottom != 0:
                    same_fraction(self, least_terms(top, bottom), Fraction(top, bottom))

    def test_great_divisors_in_common(self):
        divisor = 10 ** 57 + 9
        self.assertEqual(least_terms(21 * divisor, 14 * divisor), (3, 2))
        self.assertEqual(least_terms(-21 * divisor, 14 * divisor), (-3, 2))
        self.assertEqual(least_terms(21 * divisor, -14 * divisor), (-3, 2))
        self.assertEqual(least_terms(divisor, 2 * divisor), (1, 2))

    def test_numbers_as_great_as_the_bound(self):
        self.assertEqual(least_terms(GREAT, GREAT), (1, 1))
        self.assertEqual(least_terms(GREAT, -GREAT), (-1, 1))
        self.assertEqual(least_terms(-GREAT, -GREAT), (1, 1))
        self.assertEqual(least_terms(GREAT, 1), (GREAT, 1))
        self.assertEqual(least_terms(1, GREAT), (1, GREAT))
        self.assertEqual(least_terms(1, -GREAT), (-1, GREAT))
        self.assertEqual(least_terms(GREAT - 1, GREAT), (GREAT - 1, GREAT))
        for top, bottom in LARGE:
            same_fraction(self, least_terms(top, bottom), Fraction(top, bottom))
            same_fraction(self, least_terms(top, -bottom), Fraction(top, -bottom))

    def test_many_steps_of_division(self):
        # Neighbours of Fibonacci's row take the most steps of any numbers of their size.
        less, more = 1, 1
        while less + more <= GREAT:
            less, more = more, less + more
        self.assertEqual(least_terms(less, more), (less, more))
        self.assertEqual(least_terms(-more, less), (-more, less))


class ReckoningTest(unittest.TestCase):
    def test_plain_answers(self):
        self.assertEqual(sum_of((1, 2), (1, 3)), (5, 6))
        self.assertEqual(difference((1, 2), (1, 3)), (1, 6))
        self.assertEqual(difference((1, 3), (1, 2)), (-1, 6))
        self.assertEqual(product((2, 3), (3, 4)), (1, 2))
        self.assertEqual(quotient((2, 3), (4, 5)), (5, 6))

    def test_nought_is_told_over_one(self):
        self.assertEqual(sum_of((1, 6), (-2, 12)), (0, 1))
        self.assertEqual(difference((2, 4), (1, 2)), (0, 1))
        self.assertEqual(product((0, 5), (3, 7)), (0, 1))
        self.assertEqual(quotient((0, 5), (-3, 7)), (0, 1))

    def test_fractions_not_in_least_terms(self):
        self.assertEqual(sum_of((2, 4), (3, 6)), (1, 1))
        self.assertEqual(difference((10, 4), (6, 4)), (1, 1))
        self.assertEqual(product((6, 4), (10, 15)), (1, 1))
        self.assertEqual(quotient((6, 4), (9, 6)), (1, 1))

    def test_a_quotient_by_a_fraction_below_nought(self):
        self.assertEqual(quotient((1, 2), (-1, 3)), (-3, 2))
        self.assertEqual(quotient((-1, 2), (-1, 3)), (3, 2))
        self.assertEqual(quotient((3, 1), (-6, 4)), (-2, 1))

    def test_sum_difference_and_product_of_small_and_large(self):
        for fractions in (SMALL, LARGE):
            for a, b in pairs_of(fractions):
                for told, wanted in OPERATIONS:
                    same_fraction(self, told(a, b), wanted(as_fraction(a), as_fraction(b)))

    def test_quotient_of_small_and_large(self):
        for fractions in (SMALL, LARGE):
            for a, b in pairs_of(fractions):
                if b[0] != 0:
                    same_fraction(self, quotient(a, b), as_fraction(a) / as_fraction(b))

    def test_what_is_told_may_be_greater_than_the_bound(self):
        self.assertEqual(product((GREAT, 1), (GREAT, 1)), (10 ** 120, 1))
        self.assertEqual(quotient((1, GREAT), (-GREAT, 1)), (-1, 10 ** 120))
        self.assertEqual(sum_of((GREAT, 1), (1, GREAT)), (10 ** 120 + 1, GREAT))
        self.assertEqual(difference((-GREAT, 1), (GREAT, 1)), (-2 * GREAT, 1))


class IsLessTest(unittest.TestCase):
    def test_is_true_or_false(self):
        self.assertIs(is_less((1, 3), (1, 2)), True)
        self.assertIs(is_less((1, 2), (1, 3)), False)

    def test_equal_fractions_that_are_written_otherwise(self):
        for a, b in (((1, 2), (2, 4)), ((-3, 1), (-9, 3)), ((0, 1), (0, 8)), ((GREAT, GREAT), (1, 1))):
            with self.subTest((a, b)):
                self.assertIs(is_less(a, b), False)
                self.assertIs(is_less(b, a), False)
                self.assertIs(is_less(a, a), False)

    def test_fractions_very_near_to_one_another(self):
        near = (
            ((GREAT - 2, GREAT - 1), (GREAT - 1, GREAT)),
            ((GREAT - 1, GREAT), (GREAT, GREAT)),
            ((0, 1), (1, GREAT)),
            ((-1, GREAT), (0, 1)),
            ((1, GREAT), (1, GREAT - 1)),
            ((GREAT - 1, 1), (GREAT, 1)),
            ((1 - GREAT, GREAT), (2 - GREAT, GREAT - 1)),
        )
        for less, more in near:
            with self.subTest((less, more)):
                self.assertIs(is_less(less, more), True)
                self.assertIs(is_less(more, less), False)

    def test_both_signs(self):
        self.assertIs(is_less((-1, 2), (-1, 3)), True)
        self.assertIs(is_less((-1, 3), (-1, 2)), False)
        self.assertIs(is_less((-1, 2), (1, 3)), True)
        self.assertIs(is_less((1, 3), (-1, 2)), False)

    def test_small_and_large(self):
        for fractions in (SMALL, LARGE):
            for a, b in pairs_of(fractions):
                self.assertIs(is_less(a, b), as_fraction(a) < as_fraction(b))


class RemainderTest(unittest.TestCase):
    def check_remainder(self, a, b):
        told = remainder(a, b)
        check_fraction(self, told)
        rest = as_fraction(told)
        self.assertGreaterEqual(rest, 0)
        self.assertLess(rest, as_fraction(b))
        self.assertEqual(((as_fraction(a) - rest) / as_fraction(b)).denominator, 1)

    def test_the_documents_example(self):
        self.assertEqual(remainder((-1, 2), (2, 1)), (3, 2))

    def test_plain_answers(self):
        self.assertEqual(remainder((7, 2), (1, 1)), (1, 2))
        self.assertEqual(remainder((1, 2), (2, 1)), (1, 2))
        self.assertEqual(remainder((5, 6), (1, 4)), (1, 12))
        self.assertEqual(remainder((-5, 6), (1, 4)), (1, 6))

    def test_whole_multiples_leave_nought(self):
        for a, b in (((6, 1), (2, 1)), ((-6, 1), (2, 1)), ((9, 4), (3, 8)), ((-9, 4), (3, 8)), ((0, 5), (3, 8))):
            with self.subTest((a, b)):
                self.assertEqual(remainder(a, b), (0, 1))
        self.assertEqual(remainder((2, 3), (2, 3)), (0, 1))
        self.assertEqual(remainder((-2, 3), (2, 3)), (0, 1))

    def test_fractions_not_in_least_terms(self):
        self.assertEqual(remainder((-2, 4), (4, 2)), (3, 2))
        self.assertEqual(remainder((14, 4), (6, 6)), (1, 2))
        self.assertEqual(remainder((12, 4), (6, 4)), (0, 1))

    def test_small_and_large(self):
        for fractions in (SMALL, LARGE):
            for a, b in pairs_of(fractions):
                if b[0] > 0:
                    self.check_remainder(a, b)

    def test_just_beside_a_whole_multiple(self):
        self.assertEqual(remainder((-1, GREAT), (1, 1)), (GREAT - 1, GREAT))
        self.assertEqual(remainder((GREAT, GREAT - 1), (1, 1)), (1, GREAT - 1))
        self.assertEqual(remainder((GREAT - 1, 1), (GREAT, 1)), (GREAT - 1, 1))
        self.assertEqual(remainder((-GREAT, 1), (GREAT - 1, 1)), (GREAT - 2, 1))


if __name__ == "__main__":
    unittest.main()
