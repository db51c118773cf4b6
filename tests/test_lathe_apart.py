"""What is handed in stays as it is, what is told is the asker's own, and two lathes share nothing."""

import unittest

from helper import do_all, refusal_of, tell_all
from threadlathe.errors import UnknownWheel
from threadlathe.lathe import Lathe
from threadlathe.walk import replay

SHOP = (20, 30, 40, 60)
SPOILT = (
    ("mount", (60, 40)),
    ("close", None),
    ("cut", (1, 1)),
    ("open", None),
    ("move", (1, 1)),
    ("close", None),
    ("cut", (1, 2)),
)


class HandedInTest(unittest.TestCase):
    def test_the_shop_stays_and_later_changes_of_it_change_nothing(self):
        shop = [60, 20, 40, 30]
        lathe = Lathe(shop, 16)
        do_all(lathe, SPOILT)
        lathe.wheels_for((2, 3))
        self.assertEqual(shop, [60, 20, 40, 30])
        before = tell_all(lathe, 16)
        shop[1] = 25
        shop.append(50)
        self.assertEqual(tell_all(lathe, 16), before)
        lathe.open_nut()
        self.assertIs(refusal_of(lathe.mount, (60, 25)), UnknownWheel)
        self.assertIs(refusal_of(lathe.mount, (60, 50)), UnknownWheel)
        shop.clear()
        self.assertEqual(lathe.mount((60, 20)), ((0, 1), None, None))

    def test_a_train_stays_and_later_changes_of_it_change_nothing(self):
        lathe = Lathe(SHOP, 16)
        train = [60, 40]
        lathe.mount(train)
        self.assertEqual(train, [60, 40])
        before = tell_all(lathe, 16)
        train[0] = 20
        train.append(30)
        self.assertEqual(tell_all(lathe, 16), before)
        lathe.mount((20, 30))
        lathe.take_back()
        self.assertEqual(tell_all(lathe, 16), before)

    def test_refused_lists_stay(self):
        lathe = Lathe(SHOP, 16)
        for train in ([60, 41], [60, 60], [60], []):
            handed = list(train)
            refusal_of(lathe.mount, handed)
            self.assertEqual(handed, train)
        for shop in ([20], [20, 20], [9, 20]):
            handed = list(shop)
            refusal_of(Lathe, handed, 16)
            self.assertEqual(handed, shop)

    def test_deeds_stay_and_later_changes_of_them_change_nothing(self):
        shop, train = list(SHOP), [60, 40]
        deeds = [("mount", train), ("turn", (4, 6)), ("close", None)]
        lathe = replay(shop, 16, deeds)
        self.assertEqual(shop, list(SHOP))
        self.assertEqual(deeds, [("mount", [60, 40]), ("turn", (4, 6)), ("close", None)])
        before = tell_all(lathe, 16)
        shop.clear()
        train.clear()
        deeds.clear()
        self.assertEqual(tell_all(lathe, 16), before)
        lathe.take_back()
        self.assertEqual(lathe.book(), [("mount", (60, 40)), ("turn", (2, 3))])


class ToldTest(unittest.TestCase):
    def test_lists_told_are_the_askers_own(self):
        lathe = do_all(Lathe(SHOP, 16), SPOILT)
        before = tell_all(lathe, 16)
        for told in (lathe.passes(), lathe.book(), lathe.marks(), lathe.spoilt()[3]):
            self.assertIs(type(told), list)
            told.append(("turn", (1, 1)))
            told[0] = None
            self.assertEqual(tell_all(lathe, 16), before)
            told.clear()
            self.assertEqual(tell_all(lathe, 16), before)
        lathe.take_back()
        lathe.cut((1, 2))
        self.assertEqual(tell_all(lathe, 16), before)

    def test_empty_lists_told_are_the_askers_own(self):
        lathe = Lathe(SHOP, 16)
        lathe.passes().append((0, 0))
        lathe.book().append(("wait", None))
        self.assertEqual((lathe.passes(), lathe.book()), ([], []))
        other = Lathe(SHOP, 16)
        self.assertEqual((other.passes(), other.book()), ([], []))

    def test_what_was_told_stays_behind_later_deeds(self):
        lathe = do_all(Lathe(SHOP, 16), SPOILT)
        passes, book, spoilt, marks = lathe.passes(), lathe.book(), lathe.spoilt(), lathe.marks()
        copies = (list(passes), list(book), (spoilt[0], spoilt[1], spoilt[2], list(spoilt[3])), list(marks))
        lathe.cut((1, 1))
        lathe.open_nut()
        lathe.mount((20, 30))
        self.assertEqual((passes, book, spoilt, marks), copies)
        for count in range(len(lathe.book())):
            lathe.take_back()
        self.assertEqual((passes, book, spoilt, marks), copies)


class TwoLathesTest(unittest.TestCase):
    def test_two_lathes_of_one_list_share_nothing(self):
        shop = list(SHOP)
        one, other = Lathe(shop, 16), Lathe(shop, 16)
        new = tell_all(other, 16)
        do_all(one, SPOILT)
        self.assertEqual(tell_all(other, 16), new)
        worn = tell_all(one, 16)
        do_all(other, (("mount", (20, 30)), ("turn", (1, 1)), ("close", None)))
        self.assertEqual(tell_all(one, 16), worn)
        for count in range(3):
            other.take_back()
        self.assertEqual(tell_all(one, 16), worn)
        self.assertEqual(tell_all(other, 16), new)

    def test_a_lathe_and_its_replay_share_nothing(self):
        one = do_all(Lathe(SHOP, 16), SPOILT)
        other = replay(SHOP, 16, one.book())
        told = tell_all(one, 16)
        other.cut((1, 1))
        other.open_nut()
        other.mount((20, 30))
        self.assertEqual(tell_all(one, 16), told)
        while other.book():
            other.take_back()
        self.assertEqual(tell_all(one, 16), told)

    def test_dials_are_the_lathes_own(self):
        one, other = Lathe(SHOP, 2), Lathe(SHOP, 64)
        for lathe in (one, other):
            do_all(lathe, SPOILT)
        self.assertEqual((len(one.marks()), len(other.marks())), (2, 64))
        self.assertEqual((one.stand()[1], other.stand()[1]), ((1, 1), (1, 1)))


if __name__ == "__main__":
    unittest.main()
