"""Taking back: over each kind of deed, over mountings, down to the beginning, and behind a full book."""

import unittest

from helper import do_all, do_deed, refusal_of, tell_all
from threadlathe.errors import BookFull, NothingDone
from threadlathe.lathe import Lathe

SHOP = (20, 30, 40, 50, 60)
TEETH = 16

# Each kind of deed, with the nut open and closed, on three pieces, the first two of them spoilt.
STORY = (
    ("mount", (60, 40)),
    ("turn", (1, 3)),
    ("move", (-1, 7)),
    ("wait", None),
    ("close", None),
    ("turn", (-2, 1)),
    ("cut", (3, 1)),
    ("open", None),
    ("turn", (-5, 6)),
    ("wait", None),
    ("close", None),
    ("cut", (1, 2)),
    ("open", None),
    ("wait", None),
    ("move", (1, 1)),
    ("close", None),
    ("cut", (7, 3)),
    ("open", None),
    ("mount", (20, 30, 40, 50)),
    ("close", None),
    ("open", None),
    ("move", (-3, 1)),
    ("close", None),
    ("cut", (1, 1)),
    ("open", None),
    ("mount", (20, 30, 40, 50)),
    ("mount", (20, 30)),
    ("move", (0, 1)),
    ("turn", (0, 1)),
)


class TakeBackTest(unittest.TestCase):
    def test_the_story_is_as_it_is_meant(self):
        self.assertEqual({word for word, what in STORY}, {"mount", "turn", "wait", "close", "open", "move", "cut"})
        self.assertIsNotNone(do_all(Lathe(SHOP, TEETH), STORY[:18]).spoilt())
        self.assertIsNotNone(do_all(Lathe(SHOP, TEETH), STORY[:25]).spoilt())

    def test_each_deed_is_taken_back_and_done_again(self):
        lathe = Lathe(SHOP, TEETH)
        for word, what in STORY:
            before = tell_all(lathe, TEETH)
            answer = do_deed(lathe, word, what)
            behind = tell_all(lathe, TEETH)
            for count in range(3):
                self.assertEqual(lathe.take_back(), before["stand"])
                self.assertEqual(tell_all(lathe, TEETH), before)
                self.assertEqual(do_deed(lathe, word, what), answer)
                self.assertEqual(tell_all(lathe, TEETH), behind)

    def test_down_to_the_beginning_and_up_again(self):
        lathe = Lathe(SHOP, TEETH)
        told = [tell_all(lathe, TEETH)]
        for word, what in STORY:
            do_deed(lathe, word, what)
            told.append(tell_all(lathe, TEETH))
        for before in reversed(told[:-1]):
            self.assertEqual(lathe.take_back(), before["stand"])
            self.assertEqual(tell_all(lathe, TEETH), before)
        self.assertEqual(tell_all(lathe, TEETH), tell_all(Lathe(SHOP, TEETH), TEETH))
        for count in range(2):
            self.assertIs(refusal_of(lathe.take_back), NothingDone)
            self.assertEqual(tell_all(lathe, TEETH), told[0])
        self.assertEqual(tell_all(do_all(lathe, STORY), TEETH), told[-1])

    def test_another_deed_behind_taking_back(self):
        for length in range(1, len(STORY)):
            lathe = do_all(Lathe(SHOP, TEETH), STORY[:length])
            lathe.take_back()
            other = do_all(Lathe(SHOP, TEETH), STORY[: length - 1])
            for deed in (("turn", (5, 7)), ("open", None), ("move", (1, 9)), ("wait", None), ("mount", (40, 20))):
                one = refusal_of(do_deed, lathe, deed[0], deed[1])
                self.assertIs(one, refusal_of(do_deed, other, deed[0], deed[1]))
                self.assertEqual(tell_all(lathe, TEETH), tell_all(other, TEETH))

    def test_a_mounting_taken_back_brings_the_piece_before_back(self):
        lathe = Lathe(SHOP, TEETH)
        lathe.mount((60, 40))
        lathe.move((1, 4))
        lathe.turn((-1, 1))
        lathe.close_nut()
        lathe.cut((2, 1))
        lathe.open_nut()
        lathe.mount((20, 30))
        lathe.turn((9, 1))
        lathe.take_back()
        self.assertEqual(lathe.take_back(), ((13, 4), (0, 1), 0))
        self.assertEqual((lathe.mounted(), lathe.pitch()), ((60, 40), (3, 2)))
        self.assertEqual((lathe.work(), lathe.screw()), ((1, 1), (3, 2)))
        self.assertEqual((lathe.turned(), lathe.moved()), ((3, 1), (1, 4)))
        self.assertEqual(lathe.passes(), [(0, 0)])
        self.assertEqual(lathe.off(), (0, 1))
        # The first closing is still that of the piece before.
        lathe.move((-2, 1))
        self.assertEqual(lathe.close_nut(), ((5, 4), (14, 1), 0))

    def test_the_first_mounting_taken_back(self):
        lathe = Lathe(SHOP, TEETH)
        lathe.mount((60, 40))
        self.assertEqual(lathe.take_back(), ((0, 1), None, None))
        self.assertEqual((lathe.mounted(), lathe.pitch()), ((), None))
        self.assertEqual(tell_all(lathe, TEETH), tell_all(Lathe(SHOP, TEETH), TEETH))

    def test_with_the_nut_closed(self):
        lathe = do_all(Lathe(SHOP, TEETH), (("mount", (60, 40)), ("close", None), ("open", None)))
        lathe.take_back()
        self.assertIs(lathe.nut(), True)
        lathe.take_back()
        self.assertIs(lathe.nut(), False)
        self.assertIsNone(lathe.off())

    def test_behind_a_full_book(self):
        lathe = do_all(Lathe(SHOP, TEETH), (("mount", (60, 40)), ("close", None)))
        for count in range(98):
            lathe.cut((1, 2))
        self.assertIs(refusal_of(lathe.cut, (1, 2)), BookFull)
        full = tell_all(lathe, TEETH)
        self.assertEqual(lathe.take_back(), ((291, 4), (0, 1), 0))
        self.assertEqual(len(lathe.book()), 99)
        self.assertEqual(lathe.cut((1, 2)), ((147, 2), (0, 1), 0))
        self.assertEqual(tell_all(lathe, TEETH), full)
        self.assertIs(refusal_of(lathe.open_nut), BookFull)
        for count in range(100):
            lathe.take_back()
        self.assertIs(refusal_of(lathe.take_back), NothingDone)

    def test_taking_back_is_no_deed(self):
        lathe = do_all(Lathe(SHOP, TEETH), (("mount", (60, 40)), ("turn", (1, 1))))
        for count in range(150):
            lathe.take_back()
            self.assertEqual(lathe.book(), [("mount", (60, 40))])
            lathe.turn((1, 1))
        self.assertEqual(lathe.book(), [("mount", (60, 40)), ("turn", (1, 1))])

    def test_a_refused_deed_is_not_what_is_taken_back(self):
        lathe = do_all(Lathe(SHOP, TEETH), (("mount", (60, 40)), ("turn", (1, 1))))
        refusal_of(lathe.turn, (1, 0))
        refusal_of(lathe.mount, (21, 20))
        refusal_of(lathe.open_nut)
        lathe.take_back()
        self.assertEqual(lathe.book(), [("mount", (60, 40))])
        self.assertEqual(lathe.work(), (0, 1))


if __name__ == "__main__":
    unittest.main()
