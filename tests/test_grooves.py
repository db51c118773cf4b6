import unittest
from fractions import Fraction

from helper import PlainPiece, as_fraction, is_whole, same_fraction
from threadlathe.grooves import groove_of, least_closing, shift_of

GREAT = 10 ** 60

# In least terms and not, with a top of 1, whole numbers, below and above 1.
RATIOS = [(top, bottom) for top in range(1, 15) for bottom in range(1, 11)] + [
    (8, 15),
    (24, 45),
    (127, 10),
    (60, 60),
    (1, 64),
    (64, 1),
]

# At the bound that the interface tells, in least terms and not.
WIDE_RATIOS = [
    (20000, 19999),
    (19999, 20000),
    (20000, 1),
    (1, 20000),
    (20000, 20000),
    (19997, 3),
    (8001, 55),
    (2, 20000),
    (20000, 2),
    (20000, 7),
    (18000, 15000),
    (19998, 19996),
]

GREAT_CLOSINGS = [GREAT, -GREAT, GREAT - 1, 1 - GREAT, GREAT // 7, -GREAT // 7, 2 ** 199, -(2 ** 199)]


def top_of(ratio):
    return as_fraction(ratio).numerator


class ShiftOfTest(unittest.TestCase):
    def test_by_hand(self):
        self.assertEqual(shift_of((3, 2), 0), (0, 1))
        self.assertEqual(shift_of((3, 2), 1), (1, 1))
        self.assertEqual(shift_of((3, 2), 2), (1, 2))
        self.assertEqual(shift_of((3, 2), 3), (0, 1))
        self.assertEqual(shift_of((8, 15), 1), (7, 15))
        self.assertEqual(shift_of((8, 15), 2), (2, 5))

    def test_closings_below_nought(self):
        self.assertEqual(shift_of((3, 2), -1), (1, 2))
        self.assertEqual(shift_of((3, 2), -2), (1, 1))
        self.assertEqual(shift_of((3, 2), -3), (0, 1))
        self.assertEqual(shift_of((8, 15), -1), (1, 15))

    def test_it_is_told_in_least_terms(self):
        # Over the ratio's bottom these are 6/15, 2/4 and 0/2.
        self.assertEqual(shift_of((8, 15), 2), (2, 5))
        self.assertEqual(shift_of((11, 4), 6), (1, 2))
        self.assertEqual(shift_of((5, 2), 10), (0, 1))

    def test_a_top_of_one_has_no_shift(self):
        for bottom in (1, 2, 7, 20000):
            for closing in (0, 1, -1, 5, GREAT, -GREAT):
                self.assertEqual(shift_of((1, bottom), closing), (0, 1))

    def test_a_ratio_not_in_least_terms(self):
        for closing in (-7, -1, 0, 1, 2, 5, GREAT, -GREAT):
            for factor in (2, 3, 10, 2500):
                self.assertEqual(shift_of((3 * factor, 2 * factor), closing), shift_of((3, 2), closing))

    def test_small_and_great_against_pythons_remainder(self):
        for ratio in RATIOS + WIDE_RATIOS:
            for closing in list(range(-40, 41)) + GREAT_CLOSINGS:
                same_fraction(self, shift_of(ratio, closing), Fraction(closing) % as_fraction(ratio))

    def test_closings_of_the_greatest_size(self):
        self.assertEqual(shift_of((3, 2), GREAT), (1, 1))
        self.assertEqual(shift_of((3, 2), -GREAT), (1, 2))
        self.assertEqual(shift_of((7, 1), GREAT), (1, 1))
        self.assertEqual(shift_of((7, 1), -GREAT), (6, 1))


class GrooveOfTest(unittest.TestCase):
    def test_by_hand(self):
        self.assertEqual([groove_of((3, 2), closing) for closing in range(-3, 5)], [0, 2, 1, 0, 2, 1, 0, 2])
        self.assertEqual([groove_of((8, 15), closing) for closing in range(9)], [0, 7, 6, 5, 4, 3, 2, 1, 0])
        self.assertEqual([groove_of((4, 1), closing) for closing in range(-2, 6)], [2, 3, 0, 1, 2, 3, 0, 1])

    def test_a_ratio_not_in_least_terms_has_the_grooves_of_its_least_terms(self):
        self.assertEqual([groove_of((24, 45), closing) for closing in range(9)], [0, 7, 6, 5, 4, 3, 2, 1, 0])
        self.assertEqual([groove_of((4, 4), closing) for closing in range(-4, 5)], [0] * 9)
        self.assertEqual(groove_of((20000, 2), 1), 1)
        self.assertEqual(groove_of((20000, 2), -1), 9999)

    def test_the_shift_is_the_groove_over_the_bottom(self):
        for ratio in RATIOS + WIDE_RATIOS:
            for closing in list(range(-40, 41)) + GREAT_CLOSINGS:
                groove = groove_of(ratio, closing)
                self.assertTrue(is_whole(groove))
                self.assertGreaterEqual(groove, 0)
                self.assertLess(groove, top_of(ratio))
                shift = Fraction(closing) % as_fraction(ratio)
                self.assertEqual(Fraction(groove, as_fraction(ratio).denominator), shift)

    def test_the_first_groove_just_at_multiples_of_the_top(self):
        for ratio in RATIOS + WIDE_RATIOS:
            top = top_of(ratio)
            for closing in range(-40, 41):
                self.assertEqual(groove_of(ratio, closing) == 0, closing % top == 0, (ratio, closing))
            for times in (1, -1, 3, -3, GREAT // 20000, -GREAT // 20000):
                self.assertEqual(groove_of(ratio, times * top), 0)
                self.assertEqual(groove_of(ratio, times * top + 1) == 0, top == 1)
                self.assertEqual(groove_of(ratio, times * top - 1) == 0, top == 1)

    def test_it_is_a_whole_number_and_not_false(self):
        for closing in (0, 1, 2, -1):
            self.assertIs(type(groove_of((1, 3), closing)), int)
            self.assertIs(type(groove_of((2, 3), closing)), int)


class LeastClosingTest(unittest.TestCase):
    def test_by_hand(self):
        self.assertEqual([least_closing((3, 2), groove) for groove in range(3)], [0, 2, 1])
        self.assertEqual([least_closing((8, 15), groove) for groove in range(8)], [0, 7, 6, 5, 4, 3, 2, 1])
        self.assertEqual([least_closing((5, 3), groove) for groove in range(5)], [0, 2, 4, 1, 3])
        self.assertEqual([least_closing((4, 1), groove) for groove in range(4)], [0, 1, 2, 3])

    def test_a_top_of_one_has_one_groove(self):
        for ratio in ((1, 1), (1, 2), (1, 20000), (7, 7), (20000, 20000), (5, 20000)):
            self.assertEqual(least_closing(ratio, 0), 0)

    def test_a_ratio_not_in_least_terms(self):
        self.assertEqual([least_closing((15, 9), groove) for groove in range(5)], [0, 2, 4, 1, 3])
        self.assertEqual([least_closing((16, 30), groove) for groove in range(8)], [0, 7, 6, 5, 4, 3, 2, 1])

    def test_it_runs_in_the_groove_and_none_below_does(self):
        for ratio in RATIOS:
            top = top_of(ratio)
            grooves = [groove_of(ratio, closing) for closing in range(top)]
            for groove in range(top):
                told = least_closing(ratio, groove)
                self.assertTrue(is_whole(told))
                self.assertGreaterEqual(told, 0)
                self.assertLess(told, top)
                self.assertEqual(told, grooves.index(groove), (ratio, groove))

    def test_every_groove_of_the_widest_ratios(self):
        for ratio in WIDE_RATIOS:
            least = as_fraction(ratio)
            # Walked from above, so that the least closing of each groove is the one that stays.
            by_groove = {}
            for closing in reversed(range(2 * least.numerator)):
                by_groove[closing * least.denominator % least.numerator] = closing
            self.assertEqual(len(by_groove), least.numerator)
            for groove in range(least.numerator):
                self.assertEqual(least_closing(ratio, groove), by_groove[groove], (ratio, groove))


class PassesTest(unittest.TestCase):
    """Shift and groove as they come about on a piece, by points 7 to 9."""

    def shifts_on_a_piece(self, ratio, start):
        piece = PlainPiece(ratio)
        piece.move(start)
        piece.turn(Fraction(5, 3))
        piece.close_nut()
        first_place = piece.place_at_mark_of_work()
        for turns, way in ((Fraction(7, 2), 3), (Fraction(-9, 4), -5), (0, 1), (12, -20), (Fraction(1, 7), 31)):
            piece.turn(turns)
            piece.open_nut()
            piece.turn(turns / piece.ratio)
            # By hand to where off is a whole number, so that the nut closes.
            piece.move(way - piece.off() % 1)
            self.assertEqual(piece.off().denominator, 1)
            piece.close_nut()
            yield int(piece.off()), (piece.place_at_mark_of_work() - first_place) % piece.ratio

    def test_the_shift_is_where_the_pass_runs_on_the_work(self):
        for ratio in RATIOS:
            for start in (Fraction(0), Fraction(22, 7), Fraction(-5, 2)):
                for closing, shift in self.shifts_on_a_piece(ratio, start):
                    same_fraction(self, shift_of(ratio, closing), shift)
                    self.assertEqual(groove_of(ratio, closing), shift * as_fraction(ratio).denominator)


if __name__ == "__main__":
    unittest.main()
