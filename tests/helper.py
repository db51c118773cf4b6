"""What several tests need: exact kinds, and fractions as the document tells them."""

from fractions import Fraction
from math import gcd


def is_whole(value):
    # type, not isinstance: True and False are no numbers here.
    return type(value) is int


def check_fraction(case, told):
    """Fails unless told is a tuple of two whole numbers in least terms with a bottom of 1 or more."""
    case.assertIs(type(told), tuple)
    case.assertEqual(len(told), 2)
    case.assertTrue(is_whole(told[0]) and is_whole(told[1]), told)
    case.assertGreaterEqual(told[1], 1)
    case.assertEqual(gcd(told[0], told[1]), 1)


def same_fraction(case, told, wanted):
    """Fails unless told is just the fraction that the Fraction wanted tells."""
    check_fraction(case, told)
    case.assertEqual(told, (wanted.numerator, wanted.denominator))


def as_fraction(pair):
    return Fraction(pair[0], pair[1])


def check_marks(case, told, wanted):
    """Fails unless told is a list of just the whole numbers wanted."""
    case.assertIs(type(told), list)
    case.assertTrue(all(is_whole(mark) for mark in told), told)
    case.assertEqual(told, wanted)


class PlainPiece:
    """A piece on the lathe as points 7 and 8 tell it, step by step, in Python's own fractions."""

    def __init__(self, ratio):
        self.ratio = as_fraction(ratio)
        self.work = Fraction(0)
        self.carriage = Fraction(0)
        self.closed = False
        self.first = None

    def turn(self, turns):
        self.work += turns
        if self.closed:
            self.carriage += self.ratio * turns

    def move(self, way):
        self.carriage += way

    def close_nut(self):
        self.closed = True
        if self.first is None:
            self.first = (self.carriage, self.work)

    def open_nut(self):
        self.closed = False

    def off(self):
        return self.carriage - self.first[0] - self.ratio * (self.work - self.first[1])

    def place_at_mark_of_work(self):
        """Where a pass made now crosses the line on the work that stands at the tool after whole turns."""
        return self.carriage - self.ratio * (self.work % 1)
