"""Replay: the deeds of a book, done in order on a new lathe."""

import unittest

from helper import answer_of, do_all, do_deed, refusal_of, tell_all
from threadlathe.errors import BadNumber, BookFull, NoMeeting, NoTrain, UnknownWheel, WrongNut
from threadlathe.lathe import Lathe
from threadlathe.walk import replay

GREAT = 10 ** 60

SHOP = (20, 30, 40, 50, 60)
STORY = (
    ("mount", (20, 30, 40, 50)),
    ("move", (1, 7)),
    ("close", None),
    ("cut", (3, 2)),
    ("open", None),
    ("mount", (60, 40)),
    ("wait", None),
    ("turn", (-1, 3)),
    ("close", None),
    ("cut", (5, 1)),
    ("open", None),
    ("turn", (7, 6)),
    ("wait", None),
    ("move", (-2, 1)),
    ("close", None),
    ("cut", (1, 4)),
)


class ReplayTest(unittest.TestCase):
    def test_no_deeds(self):
        for deeds in ([], ()):
            lathe = replay(SHOP, 16, deeds)
            self.assertIs(type(lathe), Lathe)
            self.assertEqual(tell_all(lathe, 16), tell_all(Lathe(SHOP, 16), 16))

    def test_of_a_lathes_own_book(self):
        for length in range(len(STORY) + 1):
            first = do_all(Lathe(SHOP, 16), STORY[:length])
            for deeds in (first.book(), tuple(first.book())):
                for shop in (SHOP, list(SHOP)):
                    again = replay(shop, 16, deeds)
                    self.assertEqual(tell_all(again, 16), tell_all(first, 16))

    def test_it_goes_on_as_the_first_lathe_does(self):
        for length in range(len(STORY) + 1):
            first = do_all(Lathe(SHOP, 16), STORY[:length])
            again = replay(SHOP, 16, first.book())
            more = (("turn", (1, 9)), ("open", None), ("cut", (1, 1)), ("wait", None), ("close", None))
            for word, what in STORY[length:] + more:
                self.assertEqual(answer_of(do_deed, again, word, what), answer_of(do_deed, first, word, what))
                self.assertEqual(tell_all(again, 16), tell_all(first, 16))
            while first.book():
                self.assertEqual(again.take_back(), first.take_back())
                self.assertEqual(tell_all(again, 16), tell_all(first, 16))

    def test_by_hand(self):
        lathe = replay([60, 40], 16, [("mount", (60, 40)), ("close", None), ("cut", (4, 1)), ("open", None)])
        self.assertEqual(lathe.stand(), ((6, 1), (0, 1), 0))
        self.assertEqual(lathe.passes(), [(0, 0)])

    def test_trains_as_lists_and_fractions_not_in_least_terms(self):
        deeds = [("mount", [60, 40]), ("turn", (4, 6)), ("move", (-10, 4)), ("close", None), ("cut", (1000, 1000))]
        lathe = replay(SHOP, 16, deeds)
        self.assertEqual(
            lathe.book(),
            [("mount", (60, 40)), ("turn", (2, 3)), ("move", (-5, 2)), ("close", None), ("cut", (1, 1))],
        )
        self.assertIs(type(lathe.book()[0][1]), tuple)
        self.assertEqual(lathe.stand(), ((-1, 1), (0, 1), 0))

    def test_a_full_book(self):
        deeds = [("mount", (60, 40))] + [("turn", (1, 3))] * 99
        lathe = replay(SHOP, 16, deeds)
        self.assertEqual(lathe.book(), deeds)
        self.assertIs(refusal_of(lathe.wait), BookFull)
        self.assertIs(refusal_of(replay, SHOP, 16, deeds + [("wait", None)]), BookFull)
        self.assertIs(refusal_of(replay, SHOP, 16, deeds * 10), BookFull)


class RefusedTest(unittest.TestCase):
    def check_refused(self, refusal, deeds, shop=SHOP, teeth=16):
        for handed in (list(deeds), tuple(deeds)):
            self.assertIs(refusal_of(replay, shop, teeth, handed), refusal, (shop, teeth, deeds))
            self.assertEqual(list(handed), list(deeds))

    def test_the_making(self):
        for shop in ((), (20,), (9, 20), (20, 128), (20, 20), tuple(range(20, 33))):
            self.check_refused(BadNumber, [], shop=shop)
            self.check_refused(BadNumber, STORY, shop=shop)
            self.check_refused(BadNumber, [("cut", (1, 0))], shop=list(shop))
        for teeth in (1, 65, 0, GREAT):
            self.check_refused(BadNumber, [], teeth=teeth)
            self.check_refused(BadNumber, [("open", None)], teeth=teeth)

    def test_the_first_deed_that_cannot_be_done(self):
        mount, close = ("mount", (60, 40)), ("close", None)
        self.check_refused(NoTrain, [close])
        self.check_refused(NoTrain, [("turn", (1, 0)), mount])
        self.check_refused(UnknownWheel, [("mount", (60, 41))])
        self.check_refused(UnknownWheel, [mount, ("mount", [60, 41]), ("open", None)])
        self.check_refused(WrongNut, [mount, ("open", None), ("mount", (60, 41))])
        self.check_refused(WrongNut, [mount, close, close])
        self.check_refused(WrongNut, [mount, close, ("move", (1, 1))])
        self.check_refused(WrongNut, [mount, close, ("wait", None)])
        self.check_refused(WrongNut, [mount, ("cut", (1, 1))])
        self.check_refused(NoMeeting, [mount, close, ("open", None), ("turn", (1, 1)), close, ("turn", (1, 0))])
        self.check_refused(BadNumber, [mount, close, ("cut", (0, 1)), ("mount", (60, 41))])
        self.check_refused(BadNumber, [("mount", (60, 40, 30))])
        self.check_refused(BadNumber, [("mount", [60, 60])])

    def test_bottoms_and_counts(self):
        mount, close = ("mount", (60, 40)), ("close", None)
        for bottom in (0, -1, 1001, 2000, GREAT, -GREAT):
            for top in (1, 0, -1, 2000, bottom):
                self.check_refused(BadNumber, [mount, ("turn", (top, bottom))])
                self.check_refused(BadNumber, [mount, ("move", (top, bottom))])
                self.check_refused(BadNumber, [mount, close, ("cut", (top, bottom))])
        replay(SHOP, 16, [mount, ("turn", (1, 1000)), ("move", (-1, 1000)), close, ("cut", (1, 1000))])
        self.check_refused(BadNumber, [mount, ("turn", (100000, 1)), ("turn", (-1, 1000))])
        self.check_refused(BadNumber, [mount, ("move", (-100000, 1)), ("move", (1, 1000))])
        replay(SHOP, 16, [mount, ("turn", (100000, 1)), ("move", (-100000, 1))])


if __name__ == "__main__":
    unittest.main()
