import unittest
from fractions import Fraction

from helper import as_fraction, check_marks, is_whole, same_fraction
from threadlathe.dial import marks_of, reading_of, safe_marks, spoiling_at

GREAT = 10 ** 60

ALL_TEETH = range(2, 65)
SOME_TEETH = (2, 3, 4, 6, 9, 12, 16, 64)

# Tops of 1, tops that share all, some and no divisors with the teeth above, in least terms and not.
RATIOS = [(top, bottom) for top in range(1, 14) for bottom in (1, 2, 3, 5, 6)] + [
    (8, 15),
    (24, 45),
    (16, 9),
    (64, 5),
    (64, 64),
    (128, 6),
    (127, 10),
    (48, 7),
]

WIDE_RATIOS = [(20000, 19999), (19999, 20000), (20000, 1), (1, 20000), (20000, 20000), (16384, 3), (19968, 6)]


def top_of(ratio):
    return as_fraction(ratio).numerator


def groove(ratio, closing):
    return int((Fraction(closing) % as_fraction(ratio)) * as_fraction(ratio).denominator)


def closings_at(ratio, teeth, mark):
    """All closings in a stretch about nought, long enough that all repeats, at which the dial shows the mark."""
    reach = 2 * top_of(ratio) * teeth
    return [closing for closing in range(-reach, reach) if closing % teeth == mark]


class ReadingOfTest(unittest.TestCase):
    def test_the_first_closing_shows_nought(self):
        for teeth in ALL_TEETH:
            self.assertEqual(reading_of((0, 1), teeth), (0, 1))
            self.assertEqual(reading_of((0, 12), teeth), (0, 1))

    def test_by_hand(self):
        self.assertEqual(reading_of((5, 1), 16), (5, 1))
        self.assertEqual(reading_of((16, 1), 16), (0, 1))
        self.assertEqual(reading_of((37, 2), 16), (5, 2))
        self.assertEqual(reading_of((63, 2), 16), (31, 2))
        self.assertEqual(reading_of((-1, 2), 2), (3, 2))
        self.assertEqual(reading_of((-1, 3), 16), (47, 3))
        self.assertEqual(reading_of((-16, 1), 16), (0, 1))
        self.assertEqual(reading_of((-17, 1), 16), (15, 1))

    def test_at_a_closing_it_shows_a_mark(self):
        for teeth in ALL_TEETH:
            for closing in list(range(-70, 71)) + [GREAT, -GREAT, GREAT - 1, 1 - GREAT]:
                same_fraction(self, reading_of((closing, 1), teeth), Fraction(closing % teeth))

    def test_off_not_in_least_terms(self):
        self.assertEqual(reading_of((74, 4), 16), (5, 2))
        self.assertEqual(reading_of((-2, 4), 2), (3, 2))
        self.assertEqual(reading_of((32, 2), 16), (0, 1))
        self.assertEqual(reading_of((GREAT, GREAT), 3), (1, 1))

    def test_small_and_great_against_pythons_remainder(self):
        small = [(top, bottom) for top in range(-40, 41) for bottom in (1, 2, 3, 4, 6, 7)]
        great = [(GREAT, 3), (-GREAT, 3), (1, GREAT), (-1, GREAT), (GREAT - 1, GREAT), (1 - GREAT, 999)]
        for teeth in SOME_TEETH:
            for off in small + great:
                same_fraction(self, reading_of(off, teeth), as_fraction(off) % teeth)

    def test_just_below_a_round(self):
        self.assertEqual(reading_of((-1, GREAT), 64), (64 * GREAT - 1, GREAT))


class SpoilingAtTest(unittest.TestCase):
    def check_spoiling(self, ratio, teeth, mark, wanted):
        told = spoiling_at(ratio, teeth, mark)
        self.assertEqual(told, wanted, (ratio, teeth, mark))
        self.assertTrue(told is None or is_whole(told))

    def test_a_safe_mark(self):
        for mark in (0, 4, 8, 12):
            self.check_spoiling((4, 5), 16, mark, None)
        self.check_spoiling((8, 15), 16, 8, None)
        self.check_spoiling((16, 3), 16, 0, None)
        self.check_spoiling((3, 2), 9, 6, None)

    def test_a_mark_that_the_top_does_not_divide(self):
        for mark in (1, 2, 3, 5, 15):
            self.check_spoiling((4, 5), 16, mark, mark)
        self.check_spoiling((16, 3), 16, 8, 8)
        self.check_spoiling((3, 2), 16, 1, 1)

    def test_a_mark_that_the_top_divides_while_it_does_not_divide_the_teeth(self):
        self.check_spoiling((3, 2), 16, 0, 16)
        self.check_spoiling((3, 2), 16, 3, 19)
        self.check_spoiling((3, 2), 16, 15, 31)
        self.check_spoiling((6, 5), 16, 6, 22)
        self.check_spoiling((32, 5), 16, 0, 16)
        self.check_spoiling((127, 10), 2, 0, 2)
        self.check_spoiling((20000, 1), 64, 0, 64)

    def test_a_top_of_one_makes_every_mark_safe(self):
        for ratio in ((1, 1), (1, 7), (5, 5), (1, 20000), (20000, 20000), (3, 12)):
            for teeth in SOME_TEETH:
                for mark in range(teeth):
                    self.check_spoiling(ratio, teeth, mark, None)

    def test_a_ratio_not_in_least_terms(self):
        # As handed in, the tops 12, 24 and 6 do not divide the teeth.
        self.check_spoiling((12, 15), 16, 4, None)
        self.check_spoiling((24, 45), 16, 8, None)
        self.check_spoiling((24, 45), 16, 4, 4)
        self.check_spoiling((6, 4), 16, 0, 16)
        # As handed in, the top 8 does not divide the mark 4.
        self.check_spoiling((8, 6), 16, 8, None)
        self.check_spoiling((8, 6), 16, 4, None)
        self.check_spoiling((8, 6), 16, 2, 2)

    def test_against_a_walk_through_closings(self):
        for ratio in RATIOS:
            for teeth in SOME_TEETH:
                top = top_of(ratio)
                for mark in range(0, teeth, 1 if teeth < 20 else 5):
                    wrong = [closing for closing in range(mark, 2 * top * teeth, teeth) if closing % top != 0]
                    self.check_spoiling(ratio, teeth, mark, wrong[0] if wrong else None)

    def test_a_mark_is_safe_just_where_all_its_closings_run_in_the_first_groove(self):
        for ratio in ((1, 3), (3, 2), (4, 5), (8, 6), (6, 1), (5, 4)):
            for teeth in (2, 3, 4, 6, 8, 12):
                for mark in range(teeth):
                    safe = all(groove(ratio, closing) == 0 for closing in closings_at(ratio, teeth, mark))
                    self.assertEqual(spoiling_at(ratio, teeth, mark) is None, safe, (ratio, teeth, mark))

    def test_the_closing_told_shows_the_mark_and_spoils(self):
        for ratio in RATIOS + WIDE_RATIOS:
            for teeth in (2, 15, 16, 63, 64):
                for mark in range(teeth):
                    told = spoiling_at(ratio, teeth, mark)
                    if told is None:
                        self.assertEqual((teeth % top_of(ratio), mark % top_of(ratio)), (0, 0))
                    else:
                        self.assertEqual(told % teeth, mark)
                        self.assertNotEqual(groove(ratio, told), 0)
                        for closing in range(mark, told, teeth):
                            self.assertEqual(groove(ratio, closing), 0)


class SafeMarksTest(unittest.TestCase):
    def test_by_hand(self):
        check_marks(self, safe_marks((4, 5), 16), [0, 4, 8, 12])
        check_marks(self, safe_marks((8, 15), 16), [0, 8])
        check_marks(self, safe_marks((16, 3), 16), [0])
        check_marks(self, safe_marks((3, 2), 9), [0, 3, 6])
        check_marks(self, safe_marks((2, 1), 2), [0])

    def test_no_mark_is_safe_nor_is_nought(self):
        check_marks(self, safe_marks((3, 2), 16), [])
        check_marks(self, safe_marks((6, 5), 16), [])
        check_marks(self, safe_marks((32, 5), 16), [])
        check_marks(self, safe_marks((20000, 19999), 64), [])
        self.assertEqual(spoiling_at((6, 5), 16, 0), 16)

    def test_every_mark_is_safe_for_a_top_of_one(self):
        for teeth in ALL_TEETH:
            check_marks(self, safe_marks((1, 3), teeth), list(range(teeth)))
            check_marks(self, safe_marks((20000, 20000), teeth), list(range(teeth)))

    def test_a_ratio_not_in_least_terms(self):
        check_marks(self, safe_marks((12, 15), 16), [0, 4, 8, 12])
        check_marks(self, safe_marks((24, 45), 16), [0, 8])
        check_marks(self, safe_marks((8, 6), 16), [0, 4, 8, 12])
        check_marks(self, safe_marks((32, 30), 16), [0])
        check_marks(self, safe_marks((6, 4), 16), [])

    def test_just_where_the_top_divides_teeth_and_mark(self):
        for ratio in RATIOS + WIDE_RATIOS:
            top = top_of(ratio)
            for teeth in ALL_TEETH:
                wanted = [mark for mark in range(teeth) if mark % top == 0 and teeth % top == 0]
                check_marks(self, safe_marks(ratio, teeth), wanted)

    def test_a_list_told_is_the_askers_own(self):
        for ratio, wanted in (((4, 5), [0, 4, 8, 12]), ((3, 2), [])):
            told = safe_marks(ratio, 16)
            told.append(1)
            told[0] = None
            self.assertEqual(safe_marks(ratio, 16), wanted)


class MarksOfTest(unittest.TestCase):
    def test_by_hand(self):
        check_marks(self, marks_of((4, 5), 16, 0), [0, 4, 8, 12])
        check_marks(self, marks_of((4, 5), 16, 1), [1, 5, 9, 13])
        check_marks(self, marks_of((4, 3), 16, 1), [3, 7, 11, 15])
        check_marks(self, marks_of((6, 5), 16, 1), [1, 3, 5, 7, 9, 11, 13, 15])
        check_marks(self, marks_of((16, 1), 4, 7), [3])
        check_marks(self, marks_of((32, 3), 16, 1), [11])

    def test_a_top_that_shares_no_divisor_with_the_teeth_shows_every_mark(self):
        for which in range(3):
            check_marks(self, marks_of((3, 2), 16, which), list(range(16)))
        for which in (0, 1, 126):
            check_marks(self, marks_of((127, 10), 64, which), list(range(64)))

    def test_a_top_of_one_shows_every_mark(self):
        for teeth in ALL_TEETH:
            check_marks(self, marks_of((1, 5), teeth, 0), list(range(teeth)))
            check_marks(self, marks_of((9, 9), teeth, 0), list(range(teeth)))

    def test_a_mark_that_a_closing_below_nought_shows(self):
        # About nought, groove 1 has the closings -5, 3 and 11: the first of them shows mark 7.
        self.assertEqual([closing for closing in range(-8, 16) if groove((8, 3), closing) == 1], [-5, 3, 11])
        check_marks(self, marks_of((8, 3), 12, 1), [3, 7, 11])

    def test_a_ratio_not_in_least_terms(self):
        check_marks(self, marks_of((8, 10), 16, 1), [1, 5, 9, 13])
        check_marks(self, marks_of((12, 9), 16, 1), [3, 7, 11, 15])
        check_marks(self, marks_of((24, 16), 16, 2), list(range(16)))

    def test_against_a_walk_through_closings_below_and_above_nought(self):
        for ratio in RATIOS:
            top = top_of(ratio)
            for teeth in (2, 3, 4, 6, 9, 12, 16):
                by_groove = {}
                for closing in range(-top * teeth, top * teeth):
                    which = closing * as_fraction(ratio).denominator % top
                    by_groove.setdefault(which, set()).add(closing % teeth)
                for which in range(top):
                    check_marks(self, marks_of(ratio, teeth, which), sorted(by_groove[which]))

    def test_closings_below_nought_alone_show_the_same_marks(self):
        for ratio in ((4, 5), (8, 3), (3, 2), (12, 9), (10, 7)):
            for teeth in (6, 16):
                for which in range(top_of(ratio)):
                    below = [k for k in range(-2 * top_of(ratio) * teeth, 0) if groove(ratio, k) == which]
                    check_marks(self, marks_of(ratio, teeth, which), sorted({k % teeth for k in below}))

    def test_great_closings_show_a_mark_of_their_groove(self):
        for ratio in RATIOS + WIDE_RATIOS:
            for teeth in (2, 16, 63, 64):
                for closing in (GREAT, -GREAT, GREAT - 1, 1 - GREAT, -GREAT // 7):
                    told = marks_of(ratio, teeth, groove(ratio, closing))
                    self.assertIn(closing % teeth, told)

    def test_the_widest_ratios(self):
        check_marks(self, marks_of((20000, 1), 64, 19999), [31, 63])
        check_marks(self, marks_of((20000, 19999), 64, 1), [31, 63])
        check_marks(self, marks_of((19999, 20000), 64, 19998), list(range(64)))
        check_marks(self, marks_of((16384, 1), 64, 16383), [63])

    def test_safe_marks_are_the_marks_of_no_other_groove(self):
        for ratio in RATIOS:
            for teeth in (4, 9, 16):
                others = set()
                for which in range(1, top_of(ratio)):
                    others.update(marks_of(ratio, teeth, which))
                first = marks_of(ratio, teeth, 0)
                self.assertEqual([mark for mark in first if mark not in others], safe_marks(ratio, teeth))

    def test_a_list_told_is_the_askers_own(self):
        told = marks_of((4, 5), 16, 1)
        told.clear()
        told.append(3)
        self.assertEqual(marks_of((4, 5), 16, 1), [1, 5, 9, 13])


if __name__ == "__main__":
    unittest.main()
