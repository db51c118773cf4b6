import unittest
from fractions import Fraction
from math import lcm

from helper import PlainPiece, as_fraction, is_whole, same_fraction
from threadlathe.soon import soonest_at, soonest_meeting, soonest_safe

GREAT = 10 ** 60

# Tops of 1, tops that share all, some and no divisors with the teeth, in least terms and not.
RATIOS = ((1, 1), (1, 3), (5, 5), (3, 2), (6, 4), (4, 5), (8, 6), (5, 1), (6, 5), (12, 7), (7, 12))
WIDE_RATIOS = ((20000, 19999), (19999, 20000), (20000, 1), (1, 20000), (20000, 20000), (19998, 12), (8001, 55))

OFFS = [(top, bottom) for top in range(-9, 10) for bottom in (1, 2, 3, 4)] + [(-31, 7), (31, 7), (100, 8), (-100, 8)]
GREAT_OFFS = (
    (GREAT, 1),
    (-GREAT, 1),
    (GREAT - 1, 1),
    (1 - GREAT, 1),
    (GREAT, 7),
    (-GREAT, 7),
    (1, GREAT),
    (-1, GREAT),
    (GREAT - 1, GREAT),
    (1 - GREAT, GREAT),
    (GREAT, GREAT),
    (-GREAT, GREAT),
    (-GREAT, 10 ** 30 + 57),
)


def top_of(ratio):
    return as_fraction(ratio).numerator


def walk(ratio, off, fits, rounds):
    """The fewest turns behind which off is a whole number that fits, by turning the work on step by step.

    It walks until off has fallen by rounds, and is None where nothing fits until then.
    """
    least, place = as_fraction(ratio), as_fraction(off)
    # Off is a whole number of these parts of one, and each step of the work lets it fall by one part.
    parts = place.denominator * least.denominator
    step = 1 / (parts * least)
    start = int(place * parts)
    for steps in range(rounds * parts + 1):
        now = start - steps
        if now % parts == 0 and fits(now // parts):
            return (step * steps, now // parts)
    return None


class SoonTest(unittest.TestCase):
    def check_told(self, told, turns, closing):
        self.assertIs(type(told), tuple)
        self.assertEqual(len(told), 2)
        same_fraction(self, told[0], Fraction(turns))
        self.assertTrue(is_whole(told[1]))
        self.assertEqual(told[1], closing)

    def check_turns(self, ratio, off, told):
        """From 0 on, and behind them off is just the closing told."""
        self.assertIs(type(told), tuple)
        self.assertTrue(is_whole(told[1]))
        turns = as_fraction(told[0])
        same_fraction(self, told[0], turns)
        self.assertGreaterEqual(turns, 0)
        self.assertEqual(as_fraction(off) - as_fraction(ratio) * turns, told[1])


class SoonestMeetingTest(SoonTest):
    def test_a_whole_number_already(self):
        for ratio in RATIOS + WIDE_RATIOS:
            for whole in (0, 1, -1, 5, -7, GREAT, -GREAT):
                self.check_told(soonest_meeting(ratio, (whole, 1)), 0, whole)
        self.check_told(soonest_meeting((3, 2), (12, 4)), 0, 3)
        self.check_told(soonest_meeting((3, 2), (-12, 4)), 0, -3)
        self.check_told(soonest_meeting((3, 2), (0, 9)), 0, 0)
        self.check_told(soonest_meeting((3, 2), (GREAT, GREAT)), 0, 1)

    def test_by_hand(self):
        self.check_told(soonest_meeting((3, 2), (7, 2)), Fraction(1, 3), 3)
        self.check_told(soonest_meeting((3, 2), (-7, 2)), Fraction(1, 3), -4)
        self.check_told(soonest_meeting((1, 3), (1, 2)), Fraction(3, 2), 0)
        self.check_told(soonest_meeting((1, 3), (-1, 2)), Fraction(3, 2), -1)
        self.check_told(soonest_meeting((4, 5), (2, 5)), Fraction(1, 2), 0)
        self.check_told(soonest_meeting((4, 5), (-1, 5)), 1, -1)

    def test_not_in_least_terms(self):
        self.check_told(soonest_meeting((6, 4), (14, 4)), Fraction(1, 3), 3)
        self.check_told(soonest_meeting((6, 4), (-14, 4)), Fraction(1, 3), -4)
        self.check_told(soonest_meeting((20000, 5000), (6, 4)), Fraction(1, 8), 1)

    def test_against_a_walk(self):
        for ratio in RATIOS:
            for off in OFFS:
                wanted = walk(ratio, off, lambda closing: True, 1)
                self.check_told(soonest_meeting(ratio, off), wanted[0], wanted[1])

    def test_great_and_wide(self):
        self.check_told(soonest_meeting((1, 1), (-1, GREAT)), Fraction(GREAT - 1, GREAT), -1)
        self.check_told(soonest_meeting((1, 20000), (GREAT - 1, GREAT)), Fraction(20000 * (GREAT - 1), GREAT), 0)
        for ratio in RATIOS + WIDE_RATIOS:
            for off in GREAT_OFFS:
                told = soonest_meeting(ratio, off)
                self.check_turns(ratio, off, told)
                # One further would be above off, and off only falls.
                self.assertGreater(told[1] + 1, as_fraction(off))


class SoonestSafeTest(SoonTest):
    def test_a_safe_closing_already(self):
        for ratio in RATIOS + WIDE_RATIOS:
            for times in (0, 1, -1, 5, -7, GREAT // 20000, -GREAT // 20000):
                closing = times * top_of(ratio)
                self.check_told(soonest_safe(ratio, (closing, 1)), 0, closing)
                self.check_told(soonest_safe(ratio, (closing * 6, 6)), 0, closing)

    def test_by_hand(self):
        self.check_told(soonest_safe((3, 2), (7, 2)), Fraction(1, 3), 3)
        self.check_told(soonest_safe((3, 2), (5, 2)), Fraction(5, 3), 0)
        self.check_told(soonest_safe((3, 2), (2, 1)), Fraction(4, 3), 0)
        self.check_told(soonest_safe((3, 2), (-1, 1)), Fraction(4, 3), -3)
        self.check_told(soonest_safe((3, 2), (-1, 2)), Fraction(5, 3), -3)
        self.check_told(soonest_safe((3, 2), (-7, 2)), Fraction(5, 3), -6)
        self.check_told(soonest_safe((4, 5), (11, 1)), Fraction(15, 4), 8)

    def test_a_top_of_one_makes_every_meeting_safe(self):
        for ratio in ((1, 1), (1, 3), (7, 7), (1, 20000)):
            for off in OFFS + list(GREAT_OFFS):
                self.assertEqual(soonest_safe(ratio, off), soonest_meeting(ratio, off))

    def test_a_ratio_not_in_least_terms(self):
        # Taken as it is handed in, the top 12 would let these wait for 0 and -12.
        self.check_told(soonest_safe((12, 8), (7, 2)), Fraction(1, 3), 3)
        self.check_told(soonest_safe((12, 8), (-7, 2)), Fraction(5, 3), -6)
        self.check_told(soonest_safe((20000, 20000), (7, 2)), Fraction(1, 2), 3)

    def test_against_a_walk(self):
        for ratio in RATIOS:
            top = top_of(ratio)
            for off in OFFS:
                wanted = walk(ratio, off, lambda closing: closing % top == 0, top)
                self.check_told(soonest_safe(ratio, off), wanted[0], wanted[1])

    def test_great_and_wide(self):
        self.check_told(soonest_safe((3, 2), (GREAT, 1)), Fraction(2, 3), GREAT - 1)
        self.check_told(soonest_safe((3, 2), (-GREAT, 1)), Fraction(4, 3), -GREAT - 2)
        self.check_told(soonest_safe((20000, 1), (-1, 1)), Fraction(19999, 20000), -20000)
        for ratio in RATIOS + WIDE_RATIOS:
            for off in GREAT_OFFS + ((19999, 1), (-19999, 2), (40001, 2)):
                told = soonest_safe(ratio, off)
                self.check_turns(ratio, off, told)
                self.assertEqual(told[1] % top_of(ratio), 0)
                self.assertGreater(told[1] + top_of(ratio), as_fraction(off))


class SoonestAtTest(SoonTest):
    def test_such_a_closing_at_the_mark_already(self):
        self.check_told(soonest_at((3, 2), 16, (0, 1), 0), 0, 0)
        self.check_told(soonest_at((3, 2), 16, (18, 1), 2), 0, 18)
        self.check_told(soonest_at((3, 2), 16, (-12, 1), 4), 0, -12)
        self.check_told(soonest_at((3, 2), 16, (-36, 3), 4), 0, -12)
        self.check_told(soonest_at((4, 5), 16, (44, 1), 12), 0, 44)
        self.check_told(soonest_at((1, 5), 2, (GREAT, 1), 0), 0, GREAT)

    def test_by_hand(self):
        self.check_told(soonest_at((3, 2), 16, (7, 2), 3), Fraction(1, 3), 3)
        self.check_told(soonest_at((3, 2), 16, (7, 2), 0), Fraction(7, 3), 0)
        self.check_told(soonest_at((3, 2), 16, (7, 2), 4), Fraction(31, 3), -12)
        # The mark is shown already, at a closing that does not run in the first groove.
        self.check_told(soonest_at((3, 2), 16, (4, 1), 4), Fraction(32, 3), -12)
        # The closing runs in the first groove already, at another mark.
        self.check_told(soonest_at((3, 2), 16, (3, 1), 0), 2, 0)
        self.check_told(soonest_at((4, 5), 16, (11, 1), 8), Fraction(15, 4), 8)
        self.check_told(soonest_at((4, 5), 16, (11, 1), 12), Fraction(75, 4), -4)
        self.check_told(soonest_at((6, 5), 16, (0, 1), 2), Fraction(25, 1), -30)
        self.check_told(soonest_at((1, 3), 4, (1, 2), 3), Fraction(9, 2), -1)

    def test_marks_at_which_none_ever_comes(self):
        for off in ((0, 1), (1, 1), (2, 1), (-5, 2), (GREAT, 1), (-GREAT, 3)):
            for mark in (1, 2, 3, 5, 6, 7, 9, 10, 11, 13, 14, 15):
                self.assertIsNone(soonest_at((4, 5), 16, off, mark))
            for mark in range(1, 16, 2):
                self.assertIsNone(soonest_at((6, 5), 16, off, mark))
                self.assertIsNotNone(soonest_at((6, 5), 16, off, mark - 1))
            for mark in range(1, 16):
                self.assertIsNone(soonest_at((32, 5), 16, off, mark))
            self.assertIsNotNone(soonest_at((32, 5), 16, off, 0))

    def test_a_ratio_not_in_least_terms(self):
        # Taken as they are handed in, the tops would share other divisors with the teeth.
        self.check_told(soonest_at((6, 4), 16, (7, 2), 3), Fraction(1, 3), 3)
        self.check_told(soonest_at((48, 32), 16, (7, 2), 4), Fraction(31, 3), -12)
        self.assertIsNone(soonest_at((12, 15), 16, (0, 1), 2))
        self.check_told(soonest_at((16, 16), 16, (7, 2), 1), Fraction(5, 2), 1)

    def test_against_a_walk(self):
        for ratio in RATIOS:
            top = top_of(ratio)
            for teeth in (2, 3, 4, 9, 16):
                for off in ((0, 1), (-1, 1), (5, 1), (7, 2), (-7, 2), (22, 3), (-31, 4), (18, 12)):
                    for mark in range(teeth):
                        fits = lambda closing: closing % top == 0 and closing % teeth == mark
                        wanted = walk(ratio, off, fits, lcm(top, teeth))
                        told = soonest_at(ratio, teeth, off, mark)
                        with self.subTest((ratio, teeth, off, mark)):
                            if wanted is None:
                                self.assertIsNone(told)
                            else:
                                self.check_told(told, wanted[0], wanted[1])

    def test_great_and_wide(self):
        for ratio in RATIOS + WIDE_RATIOS:
            top = top_of(ratio)
            for teeth in (2, 16, 63, 64):
                again = lcm(top, teeth)
                shown = {closing % teeth for closing in range(0, again, top)}
                for off in GREAT_OFFS:
                    for mark in (0, 1, teeth // 2, teeth - 1):
                        told = soonest_at(ratio, teeth, off, mark)
                        self.assertEqual(told is None, mark not in shown)
                        if told is not None:
                            self.check_turns(ratio, off, told)
                            self.assertEqual((told[1] % top, told[1] % teeth), (0, mark))
                            self.assertGreater(told[1] + again, as_fraction(off))

    def test_it_is_never_sooner_than_the_soonest_safe(self):
        for ratio in RATIOS:
            for off in OFFS:
                safe = soonest_safe(ratio, off)
                at_its_mark = soonest_at(ratio, 12, off, safe[1] % 12)
                self.assertEqual(at_its_mark, safe)


class OnAPieceTest(unittest.TestCase):
    """The turns told, as they are made on a piece by points 7 and 8."""

    def opened_piece(self, ratio, turns, way):
        piece = PlainPiece(ratio)
        piece.move(Fraction(9, 4))
        piece.turn(Fraction(2, 3))
        piece.close_nut()
        piece.turn(5)
        self.assertEqual(piece.off(), 0)
        piece.open_nut()
        piece.turn(turns)
        piece.move(way)
        return piece

    def off_of(self, piece):
        return (piece.off().numerator, piece.off().denominator)

    def test_behind_the_turns_off_is_the_closing(self):
        for ratio in RATIOS:
            for turns, way in ((0, 0), (Fraction(7, 3), 2), (Fraction(-7, 3), Fraction(-5, 6)), (40, -1)):
                off = self.off_of(self.opened_piece(ratio, turns, way))
                safe = soonest_safe(ratio, off)
                for told in (soonest_meeting(ratio, off), safe, soonest_at(ratio, 16, off, safe[1] % 16)):
                    piece = self.opened_piece(ratio, turns, way)
                    piece.turn(as_fraction(told[0]))
                    self.assertEqual(piece.off(), told[1])


if __name__ == "__main__":
    unittest.main()
