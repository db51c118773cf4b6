"""Each refusal of a deed by its class, at its edges; behind each of them all is told as before."""

import unittest

from helper import do_all, do_deed, refusal_of, tell_all
from threadlathe.errors import BadNumber, BookFull, NoMeeting, NoTrain, UnknownWheel, WrongNut
from threadlathe.lathe import Lathe

GREAT = 10 ** 60

SHOP = (20, 30, 40, 50, 60, 80)
TEETH = 16

OPEN = (("mount", (60, 40)),)
CLOSED = OPEN + (("close", None),)
OPENED = CLOSED + (("open", None),)

BAD_BOTTOMS = (0, -1, -2, -1000, 1001, 2000, GREAT, -GREAT)


class RefusalTest(unittest.TestCase):
    def lathe(self, deeds):
        return do_all(Lathe(SHOP, TEETH), deeds)

    def check_refused(self, deeds, refusal, word, what=None):
        lathe = self.lathe(deeds)
        self.check_refused_on(lathe, refusal, word, what)

    def check_refused_on(self, lathe, refusal, word, what=None):
        before = tell_all(lathe, TEETH)
        self.assertIs(refusal_of(do_deed, lathe, word, what), refusal, (word, what))
        self.assertEqual(tell_all(lathe, TEETH), before)

    def check_done(self, deeds, word, what=None):
        lathe = self.lathe(deeds)
        self.assertIsNone(refusal_of(do_deed, lathe, word, what), (word, what))
        self.assertEqual(len(lathe.book()), len(deeds) + 1)


class TrainTest(RefusalTest):
    def test_an_unknown_wheel_at_any_place(self):
        for unknown in (21, 9, 0, -20, 127, GREAT):
            for size in (1, 2, 3, 4, 5, 6):
                for place in range(size):
                    train = list(SHOP[:size])
                    train[place] = unknown
                    for deeds in ((), OPEN, CLOSED, OPENED):
                        self.check_refused(deeds, UnknownWheel, "mount", train)
                    self.check_refused((), UnknownWheel, "mount", tuple(train))
                    self.assertEqual(train[place], unknown)

    def test_an_unknown_wheel_twice(self):
        self.check_refused((), UnknownWheel, "mount", (21, 21))
        self.check_refused((), UnknownWheel, "mount", (20, 20, 21, 30))

    def test_the_number_of_wheels(self):
        for size in (0, 1, 3, 5, 6):
            for deeds in ((), OPEN, OPENED):
                self.check_refused(deeds, BadNumber, "mount", SHOP[:size])
                self.check_refused(deeds, BadNumber, "mount", list(SHOP[:size]))
        self.check_refused((), BadNumber, "mount", SHOP * 100)
        for size in (2, 4):
            self.check_done((), "mount", SHOP[:size])
            self.check_done((), "mount", list(SHOP[:size]))

    def test_a_wheel_twice(self):
        for deeds in ((), OPEN, OPENED):
            self.check_refused(deeds, BadNumber, "mount", (20, 20))
            for one in range(4):
                for other in range(4):
                    if one != other:
                        train = list(SHOP[:4])
                        train[one] = train[other]
                        self.check_refused(deeds, BadNumber, "mount", train)

    def test_the_nut_is_closed(self):
        for train in ((20, 30), (), (20,), (20, 20), (20, 30, 40), SHOP):
            self.check_refused(CLOSED, WrongNut, "mount", train)


class NutTest(RefusalTest):
    def test_no_train(self):
        for word in ("wait", "close", "open"):
            self.check_refused((), NoTrain, word)
        for word in ("turn", "move", "cut"):
            for amount in ((1, 1), (0, 1), (-1, 1), (1, 0), (1, 1001), (GREAT, 1)):
                self.check_refused((), NoTrain, word, amount)

    def test_the_nut_is_closed(self):
        self.check_refused(CLOSED, WrongNut, "wait")
        self.check_refused(CLOSED, WrongNut, "close")
        for way in ((1, 1), (0, 1), (1, 0), (1, 1001), (GREAT, 1)):
            self.check_refused(CLOSED, WrongNut, "move", way)

    def test_the_nut_is_open(self):
        for deeds in (OPEN, OPENED):
            self.check_refused(deeds, WrongNut, "open")
            for turns in ((1, 1), (0, 1), (-1, 1), (1, 0), (1, 1001), (GREAT, 1)):
                self.check_refused(deeds, WrongNut, "cut", turns)

    def test_a_turn_is_good_with_the_nut_open_and_closed(self):
        for deeds in (OPEN, CLOSED, OPENED):
            self.check_done(deeds, "turn", (1, 1))

    def test_no_meeting(self):
        for turns in ((1, 1), (1, 3), (-1, 3), (1, 1000)):
            self.check_refused(OPENED + (("turn", turns),), NoMeeting, "close")
        for turns in ((0, 1), (2, 3), (-2, 3), (2, 1), (-4, 1)):
            self.check_done(OPENED + (("turn", turns),), "close")


class BottomTest(RefusalTest):
    def test_bottoms_as_they_are_handed_in(self):
        for word, deeds in (("turn", OPEN), ("turn", CLOSED), ("move", OPEN), ("move", OPENED), ("cut", CLOSED)):
            for bottom in BAD_BOTTOMS:
                for top in (1, 2, 2000, 1001):
                    self.check_refused(deeds, BadNumber, word, (top, bottom))
                # As great as its bottom: in least terms nothing of it would be seen.
                self.check_refused(deeds, BadNumber, word, (bottom, bottom))
            for amount in ((1, 1), (1, 999), (1, 1000), (1000, 1000), (2000, 1000)):
                self.check_done(deeds, word, amount)

    def test_noughts_and_amounts_below_nought_with_bad_bottoms(self):
        for bottom in BAD_BOTTOMS:
            for top in (0, -1, -1001):
                for word, deeds in (("turn", OPEN), ("move", OPEN), ("cut", CLOSED)):
                    self.check_refused(deeds, BadNumber, word, (top, bottom))
        self.check_done(OPEN, "turn", (0, 1000))
        self.check_done(OPEN, "move", (0, 1000))
        self.check_done(OPEN, "turn", (-1, 1000))
        self.check_done(OPEN, "move", (-1, 1000))

    def test_turns_of_a_pass_are_above_nought(self):
        for turns in ((0, 1), (0, 1000), (-1, 1), (-1, 1000), (-100000, 1), (-GREAT, 1)):
            self.check_refused(CLOSED, BadNumber, "cut", turns)
        self.check_done(CLOSED, "cut", (1, 1000))


class CountTest(RefusalTest):
    def test_turns_in_one_deed(self):
        for deeds in (OPEN, CLOSED):
            for sign in (1, -1):
                self.check_done(deeds, "turn", (sign * 100000, 1))
                self.check_done(deeds, "turn", (sign * 100000000, 1000))
                self.check_refused(deeds, BadNumber, "turn", (sign * 100000001, 1000))
                self.check_refused(deeds, BadNumber, "turn", (sign * 100001, 1))
                self.check_refused(deeds, BadNumber, "turn", (sign * GREAT, 1))
        self.check_done(CLOSED, "cut", (100000, 1))
        self.check_refused(CLOSED, BadNumber, "cut", (100000001, 1000))
        self.check_refused(CLOSED, BadNumber, "cut", (GREAT, 1000))

    def test_moves_in_one_deed(self):
        for sign in (1, -1):
            self.check_done(OPEN, "move", (sign * 100000, 1))
            self.check_refused(OPEN, BadNumber, "move", (sign * 100000001, 1000))
            self.check_refused(OPEN, BadNumber, "move", (sign * GREAT, 1))

    def test_turns_are_counted_without_their_sign(self):
        for first in (60000, -60000):
            for second in (40000, -40000):
                deeds = CLOSED + (("turn", (first, 1)),)
                self.check_done(deeds, "turn", (second, 1))
                self.check_refused(deeds, BadNumber, "turn", (second * 1000 + (1 if second > 0 else -1), 1000))
                full = self.lathe(deeds + (("turn", (second, 1)),))
                self.assertEqual(full.turned(), (100000, 1))
                for turns in ((1, 1000), (-1, 1000)):
                    self.check_refused_on(full, BadNumber, "turn", turns)
                self.check_refused_on(full, BadNumber, "cut", (1, 1000))
                full.turn((0, 1))

    def test_moves_are_counted_without_their_sign(self):
        for first in (60000, -60000):
            for second in (40000, -40000):
                full = self.lathe(OPEN + (("move", (first, 1)), ("move", (second, 1))))
                self.assertEqual(full.moved(), (100000, 1))
                for way in ((1, 1000), (-1, 1000)):
                    self.check_refused_on(full, BadNumber, "move", way)
                full.move((0, 1))

    def test_turns_and_passes_are_counted_together(self):
        deeds = CLOSED + (("cut", (30000, 1)), ("turn", (-60000, 1)))
        self.check_done(deeds, "cut", (10000, 1))
        self.check_refused(deeds, BadNumber, "cut", (10000001, 1000))
        self.check_done(deeds, "turn", (-10000, 1))
        self.check_refused(deeds, BadNumber, "turn", (-10000001, 1000))

    def test_turns_and_moves_are_counted_apart(self):
        lathe = self.lathe(OPEN + (("turn", (100000, 1)), ("move", (-100000, 1)), ("close", None)))
        self.assertEqual((lathe.turned(), lathe.moved()), ((100000, 1), (100000, 1)))

    def test_the_carriage_being_carried_is_no_move(self):
        lathe = self.lathe(CLOSED + (("turn", (50000, 1)), ("cut", (40000, 1)), ("open", None)))
        self.assertEqual(lathe.stand()[0], (135000, 1))
        self.assertEqual(lathe.moved(), (0, 1))
        lathe.move((-100000, 1))

    def test_the_turns_of_wait_are_counted(self):
        # Off by 3/2, which is just the pitch: one turn until it is 0.
        lathe = self.lathe(OPENED + (("move", (3, 2)), ("wait", None)))
        self.assertEqual(lathe.turned(), (1, 1))
        self.check_refused_on(lathe, BadNumber, "turn", (99999001, 1000))
        self.check_refused_on(lathe, BadNumber, "turn", (-99999001, 1000))
        lathe.turn((-99999, 1))
        self.assertEqual(lathe.turned(), (100000, 1))

    def test_wait_comes_to_just_the_count_and_to_more(self):
        # Pitch 1/2, whose top is 1: behind an odd number of turns off is a whole number and a half,
        # and one turn more makes it whole; a little move makes that a little more or less.
        for turned in (99999, -99999):
            for way, refusal in (((0, 1), None), ((-1, 1000), None), ((1, 1000), BadNumber), ((499, 1000), BadNumber)):
                deeds = (("mount", (20, 40)), ("close", None), ("open", None), ("turn", (turned, 1)), ("move", way))
                if refusal is None:
                    self.check_done(deeds, "wait")
                else:
                    self.check_refused(deeds, refusal, "wait")
            lathe = self.lathe((("mount", (20, 40)), ("close", None), ("open", None), ("turn", (turned, 1))))
            lathe.wait()
            self.assertEqual(lathe.turned(), (100000, 1))
            lathe.move((1, 1000))
            self.check_refused_on(lathe, BadNumber, "wait")

    def test_wait_ahead_of_the_first_closing_with_all_turns_counted(self):
        self.check_done(OPEN + (("turn", (100000, 1)), ("move", (1, 7))), "wait")

    def test_wait_of_no_turns_with_all_turns_counted(self):
        self.check_done(OPENED + (("turn", (-100000, 1)),), "wait")

    def test_the_counts_begin_anew_with_a_piece(self):
        full = OPEN + (("turn", (-100000, 1)), ("move", (100000, 1)), ("mount", (20, 30)))
        lathe = self.lathe(full)
        self.assertEqual((lathe.turned(), lathe.moved()), ((0, 1), (0, 1)))
        lathe.turn((100000, 1))
        lathe.move((-100000, 1))

    def test_a_deed_taken_back_is_not_counted(self):
        lathe = self.lathe(OPEN + (("turn", (100000, 1)), ("move", (100000, 1))))
        lathe.take_back()
        lathe.take_back()
        lathe.turn((100000, 1))
        lathe.move((100000, 1))


class FullBookTest(RefusalTest):
    def filled(self, deeds):
        return deeds + (("turn", (0, 1)),) * (100 - len(deeds))

    def test_the_hundredth_and_the_next_deed(self):
        for word, what, deeds in (
            ("mount", (20, 30), OPEN),
            ("turn", (1, 1), OPEN),
            ("turn", (1, 1), CLOSED),
            ("wait", None, OPEN),
            ("wait", None, OPENED),
            ("close", None, OPEN),
            ("close", None, OPENED),
            ("open", None, CLOSED),
            ("move", (1, 1), OPEN),
            ("cut", (1, 1), CLOSED),
        ):
            full = self.filled(deeds)
            self.check_done(full[:-1], word, what)
            self.check_refused(full, BookFull, word, what)

    def test_over_all_pieces(self):
        lathe = self.lathe((("mount", (20, 30)), ("turn", (1, 1)), ("mount", (60, 40)), ("wait", None)) * 25)
        self.assertEqual(len(lathe.book()), 100)
        for word, what in (("mount", (20, 30)), ("turn", (1, 1)), ("close", None), ("wait", None), ("move", (1, 1))):
            self.check_refused_on(lathe, BookFull, word, what)

    def test_refused_deeds_take_no_place_in_the_book(self):
        lathe = self.lathe(self.filled(OPEN)[:-1])
        for count in range(5):
            self.check_refused_on(lathe, WrongNut, "cut", (1, 1))
            self.check_refused_on(lathe, BadNumber, "turn", (1, 0))
        lathe.close_nut()
        self.check_refused_on(lathe, BookFull, "open")

    def test_all_others_come_ahead_of_it(self):
        opened, closed = self.filled(OPENED + (("move", (1, 2)),)), self.filled(CLOSED)
        self.check_refused(opened, UnknownWheel, "mount", (20, 21))
        self.check_refused(opened, BadNumber, "mount", (20, 20))
        self.check_refused(closed, WrongNut, "mount", (20, 30))
        self.check_refused(opened, NoMeeting, "close")
        self.check_refused(closed, WrongNut, "close")
        self.check_refused(opened, WrongNut, "open")
        self.check_refused(closed, WrongNut, "wait")
        self.check_refused(opened, BadNumber, "turn", (1, 1001))
        self.check_refused(opened, BadNumber, "move", (100001, 1))
        self.check_refused(closed, WrongNut, "move", (1, 1))
        self.check_refused(opened, WrongNut, "cut", (1, 1))
        self.check_refused(closed, BadNumber, "cut", (0, 1))

    def test_asking_goes_on(self):
        lathe = self.lathe(self.filled(OPENED))
        self.assertEqual(lathe.soonest(), ((0, 1), 0))
        self.assertEqual(lathe.wheels_for((2, 3)), ((2, 3), (20, 30)))
        self.assertEqual(len(lathe.marks()), 16)


if __name__ == "__main__":
    unittest.main()
