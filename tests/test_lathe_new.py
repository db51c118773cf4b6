"""A new lathe, and the shops and dials of which none is made."""

import unittest

from helper import refusal_of, tell_all
from threadlathe.errors import BadNumber, NothingDone, NoTrain
from threadlathe.lathe import Lathe

GREAT = 10 ** 60

TWELVE = (20, 24, 25, 30, 32, 40, 48, 50, 60, 80, 100, 120)
FRACTIONS = ((0, 1), (1, 2), (-1, 2), (1, 0), (1, -1), (0, 0), (1, 1001), (GREAT, 1), (-GREAT, 1))


class NewLatheTest(unittest.TestCase):
    def setUp(self):
        self.lathe = Lathe([20, 30, 40, 60], 16)

    def test_all_that_it_tells(self):
        self.assertEqual(self.lathe.stand(), ((0, 1), None, None))
        self.assertEqual(self.lathe.mounted(), ())
        self.assertIs(type(self.lathe.mounted()), tuple)
        self.assertIsNone(self.lathe.pitch())
        for fraction in (self.lathe.work(), self.lathe.screw(), self.lathe.turned(), self.lathe.moved()):
            self.assertEqual(fraction, (0, 1))
        self.assertIs(self.lathe.nut(), False)
        self.assertIsNone(self.lathe.off())
        self.assertEqual(self.lathe.passes(), [])
        self.assertEqual(self.lathe.book(), [])
        self.assertIsNone(self.lathe.spoilt())

    def check_refused(self, refusal, question, *what):
        before = tell_all(self.lathe, 16)
        self.assertIs(refusal_of(question, *what), refusal)
        self.assertEqual(tell_all(self.lathe, 16), before)

    def test_no_deed_but_mount_is_done(self):
        for deed in (self.lathe.wait, self.lathe.close_nut, self.lathe.open_nut):
            self.check_refused(NoTrain, deed)
        for deed in (self.lathe.turn, self.lathe.move, self.lathe.cut):
            for amount in FRACTIONS:
                self.check_refused(NoTrain, deed, amount)

    def test_what_needs_a_train_is_not_told(self):
        self.check_refused(NoTrain, self.lathe.marks)
        self.check_refused(NoTrain, self.lathe.soonest)
        for mark in (0, 1, 15, 16, -1, GREAT, -GREAT):
            self.check_refused(NoTrain, self.lathe.soonest_on, mark)

    def test_nothing_is_taken_back(self):
        self.check_refused(NothingDone, self.lathe.take_back)
        self.check_refused(NothingDone, self.lathe.take_back)
        # Refused deeds do not stand in the book.
        refusal_of(self.lathe.turn, (1, 1))
        refusal_of(self.lathe.mount, (20, 31))
        self.check_refused(NothingDone, self.lathe.take_back)

    def test_wheels_are_told_without_a_train(self):
        self.assertEqual(self.lathe.wheels_for((2, 3)), ((2, 3), (20, 30)))

    def test_a_train_can_be_mounted(self):
        self.assertEqual(self.lathe.mount((60, 40)), ((0, 1), None, None))


class MakingTest(unittest.TestCase):
    def check_made(self, wheels, teeth):
        for shop in (list(wheels), tuple(wheels)):
            lathe = Lathe(shop, teeth)
            self.assertEqual(lathe.stand(), ((0, 1), None, None))
            lathe.mount(shop[:2])
            self.assertEqual(len(lathe.marks()), teeth)

    def check_refused(self, wheels, teeth):
        for shop in (list(wheels), tuple(wheels)):
            self.assertIs(refusal_of(Lathe, shop, teeth), BadNumber, (shop, teeth))
            self.assertEqual(list(shop), list(wheels))

    def test_the_number_of_wheels(self):
        self.check_refused((), 16)
        self.check_refused((20,), 16)
        self.check_made((20, 30), 16)
        self.check_made((20, 30, 40), 16)
        self.check_made(TWELVE, 16)
        self.check_refused(TWELVE + (127,), 16)
        self.check_refused(tuple(range(10, 128)), 16)
        self.check_refused((20, 30) * 500, 16)

    def test_the_teeth_of_a_wheel_at_any_place(self):
        for place in range(12):
            for teeth in (9, 128, 0, -20, GREAT, -GREAT):
                self.check_refused(TWELVE[:place] + (teeth,) + TWELVE[place + 1:], 16)
            for teeth in (10, 127):
                self.check_made(TWELVE[:place] + (teeth,) + TWELVE[place + 1:], 16)
        self.check_made((10, 127), 16)
        self.check_refused((9, 127), 16)
        self.check_refused((10, 128), 16)

    def test_two_wheels_alike_at_any_places(self):
        self.check_refused((20, 20), 16)
        for one in range(12):
            for other in range(12):
                if one != other:
                    shop = list(TWELVE)
                    shop[one] = shop[other]
                    self.check_refused(shop, 16)

    def test_the_teeth_of_the_dial(self):
        for teeth in (1, 65, 0, -2, -16, GREAT, -GREAT):
            self.check_refused((20, 30), teeth)
        for teeth in range(2, 65):
            self.check_made((20, 30), teeth)

    def test_shop_and_dial_both_bad(self):
        self.check_refused((20,), 1)
        self.check_refused((9, 9), 65)

    def test_any_order_of_wheels(self):
        self.assertEqual(Lathe([60, 20, 40, 30], 16).wheels_for((1, 2)), ((1, 2), (20, 40)))


if __name__ == "__main__":
    unittest.main()
