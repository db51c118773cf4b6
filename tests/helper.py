"""What several tests need: exact kinds, and fractions as the document tells them."""

from fractions import Fraction
from math import gcd


def is_whole(value):
    # type, not isinstance: True and False are no numbers here.
    return type(value) is int


def check_fraction(case, told):
    """Fails unless told is a tuple of two whole numbers in least terms with a bottom of 1 or more."""
    case.assertIs(type(told), tuple)
    case.assertEqual(len(told), 2)
    case.assertTrue(is_whole(told[0]) and is_whole(told[1]), told)
    case.assertGreaterEqual(told[1], 1)
    case.assertEqual(gcd(told[0], told[1]), 1)


def same_fraction(case, told, wanted):
    """Fails unless told is just the fraction that the Fraction wanted tells."""
    check_fraction(case, told)
    case.assertEqual(told, (wanted.numerator, wanted.denominator))


def as_fraction(pair):
    return Fraction(pair[0], pair[1])
