"""What a lathe is asked besides: wheels, marks, how soon, and what a spoilt piece tells."""

import unittest

from helper import answer_of, check_fraction, check_marks, do_all, is_whole, refusal_of, tell_all
from threadlathe.dial import marks_of, spoiling_at
from threadlathe.errors import BadNumber, NoTrain, WrongNut
from threadlathe.grooves import least_closing
from threadlathe.lathe import Lathe
from threadlathe.soon import soonest_at, soonest_safe
from threadlathe.wheels import choose_train

GREAT = 10 ** 60

SHOP = (20, 30, 40, 50, 60, 80)

CLOSED = (("mount", (60, 40)), ("close", None))
OPENED = CLOSED + (("open", None),)


def lathe_of(*deeds):
    return do_all(Lathe(SHOP, 16), deeds)


class WheelsForTest(unittest.TestCase):
    def check_told(self, lathe, pitch):
        told = lathe.wheels_for(pitch)
        self.assertEqual(told, choose_train(SHOP, pitch))
        self.assertIs(type(told), tuple)
        check_fraction(self, told[0])
        self.assertIs(type(told[1]), tuple)

    def test_by_hand(self):
        lathe = lathe_of()
        self.assertEqual(lathe.wheels_for((4, 6)), ((2, 3), (20, 30)))
        self.assertEqual(lathe.wheels_for((8, 15)), ((8, 15), (20, 30, 40, 50)))
        self.assertEqual(Lathe((20, 10), 16).wheels_for((5, 4)), ((1, 2), (10, 20)))

    def test_edges(self):
        lathe = lathe_of()
        for pitch in ((1, 100), (10, 1000), (11, 1000), (100, 1), (100000, 1000), (99999, 1000), (1000, 1000), (1, 1)):
            self.check_told(lathe, pitch)

    def test_beyond_the_edges(self):
        lathe = lathe_of()
        for pitch in ((9, 1000), (1, 101), (1, 1000), (0, 1), (-1, 1), (-100, 1), (-GREAT, 1)):
            self.assertIs(refusal_of(lathe.wheels_for, pitch), BadNumber, pitch)
        for pitch in ((100001, 1000), (101, 1), (201, 2), (GREAT, 1), (GREAT, 1000)):
            self.assertIs(refusal_of(lathe.wheels_for, pitch), BadNumber, pitch)

    def test_bottoms_as_they_are_handed_in(self):
        lathe = lathe_of()
        for bottom in (0, -1, -1000, 1001, 2000, GREAT, -GREAT):
            for pitch in ((1, bottom), (-1, bottom), (0, bottom), (bottom, bottom), (2 * bottom, bottom)):
                self.assertIs(refusal_of(lathe.wheels_for, pitch), BadNumber, pitch)

    def test_with_and_without_a_train_nut_open_and_closed(self):
        for deeds in ((), CLOSED[:1], CLOSED, OPENED):
            lathe = lathe_of(*deeds)
            before = tell_all(lathe, 16)
            self.check_told(lathe, (3, 5))
            self.assertIs(refusal_of(lathe.wheels_for, (1, 101)), BadNumber)
            self.assertEqual(tell_all(lathe, 16), before)

    def test_a_full_book_is_no_hindrance(self):
        self.check_told(lathe_of(*CLOSED[:1], *((("turn", (0, 1)),) * 99)), (3, 5))


class MarksTest(unittest.TestCase):
    def test_by_hand(self):
        lathe = lathe_of(("mount", (60, 40)))
        wanted = [16, 1, 2, 19, 4, 5, 22, 7, 8, 25, 10, 11, 28, 13, 14, 31]
        self.assertEqual(lathe.marks(), wanted)
        lathe.mount((40, 50))
        wanted = [None, 1, 2, 3, None, 5, 6, 7, None, 9, 10, 11, None, 13, 14, 15]
        self.assertEqual(lathe.marks(), wanted)
        lathe.mount((20, 40))
        self.assertEqual(lathe.marks(), [None] * 16)

    def test_each_dial(self):
        for teeth in range(2, 65):
            lathe = Lathe(SHOP, teeth)
            for train, ratio in (((60, 40), (3, 2)), ((20, 30, 40, 50), (8, 15)), ((40, 20), (2, 1))):
                lathe.mount(train)
                told = lathe.marks()
                self.assertIs(type(told), list)
                self.assertEqual(told, [spoiling_at(ratio, teeth, mark) for mark in range(teeth)])
                self.assertTrue(all(closing is None or is_whole(closing) for closing in told))

    def test_the_same_ahead_of_and_behind_the_first_closing(self):
        wanted = lathe_of(("mount", (60, 40))).marks()
        for deeds in (CLOSED, OPENED, OPENED + (("turn", (1, 7)),), CLOSED + (("cut", (1, 1)),)):
            self.assertEqual(lathe_of(*deeds).marks(), wanted)

    def test_no_train(self):
        self.assertIs(refusal_of(lathe_of().marks), NoTrain)


class SoonestTest(unittest.TestCase):
    def check_told(self, lathe, turns, mark):
        told = lathe.soonest()
        self.assertEqual(told, (turns, mark))
        self.assertIs(type(told), tuple)
        check_fraction(self, told[0])
        self.assertTrue(is_whole(told[1]))

    def test_ahead_of_the_first_closing(self):
        self.check_told(lathe_of(("mount", (60, 40))), (0, 1), 0)
        self.check_told(lathe_of(("mount", (60, 40)), ("turn", (1, 7)), ("move", (-22, 7))), (0, 1), 0)

    def test_behind_it(self):
        self.check_told(lathe_of(*OPENED), (0, 1), 0)
        self.check_told(lathe_of(*OPENED, ("move", (5, 2))), (5, 3), 0)
        self.check_told(lathe_of(*OPENED, ("turn", (1, 3))), (5, 3), 13)
        self.check_told(lathe_of(*OPENED, ("move", (3, 1))), (0, 1), 3)
        self.check_told(lathe_of(*OPENED, ("move", (4, 1))), (2, 3), 3)
        self.check_told(lathe_of(*OPENED, ("move", (-1, 1))), (4, 3), 13)
        self.check_told(lathe_of(*OPENED, ("move", (97, 2))), (1, 3), 0)

    def test_as_soonest_safe_tells(self):
        for way in ((7, 2), (-7, 2), (22, 7), (-355, 113), (1000, 1), (-999, 1000)):
            lathe = lathe_of(*OPENED, ("turn", (5, 9)), ("move", way))
            turns, closing = soonest_safe((3, 2), lathe.off())
            self.check_told(lathe, turns, closing % 16)

    def test_it_is_what_wait_does(self):
        for way in ((7, 2), (-7, 2), (22, 7), (-355, 113), (0, 1)):
            lathe = lathe_of(*OPENED, ("move", way))
            turns, mark = lathe.soonest()
            stand = lathe.wait()
            self.assertEqual((lathe.turned(), stand[1]), (turns, (mark, 1)))
            lathe.close_nut()
            self.assertEqual(lathe.cut((1, 1))[2], 0)

    def test_refusals(self):
        self.assertIs(refusal_of(lathe_of().soonest), NoTrain)
        self.assertIs(refusal_of(lathe_of(*CLOSED).soonest), WrongNut)

    def test_more_turns_than_are_counted_are_told_too(self):
        lathe = lathe_of(*OPENED, ("turn", (-100000, 1)), ("move", (1, 2)))
        self.check_told(lathe, (1, 3), 150000 % 16)
        self.assertIs(refusal_of(lathe.wait), BadNumber)


class SoonestOnTest(unittest.TestCase):
    def test_ahead_of_the_first_closing(self):
        for deeds in ((("mount", (60, 40)),), (("mount", (60, 40)), ("turn", (1, 7)), ("move", (5, 1)))):
            lathe = lathe_of(*deeds)
            self.assertEqual(lathe.soonest_on(0), (0, 1))
            for mark in range(1, 16):
                self.assertIsNone(lathe.soonest_on(mark))

    def test_behind_it(self):
        lathe = lathe_of(*OPENED, ("move", (5, 2)))
        for mark, turns in ((0, (5, 3)), (13, (11, 3)), (15, (71, 3)), (3, (95, 3))):
            self.assertEqual(lathe.soonest_on(mark), turns)
            check_fraction(self, lathe.soonest_on(mark))

    def test_a_mark_that_never_comes(self):
        lathe = lathe_of(("mount", (40, 50)), ("close", None), ("open", None), ("move", (5, 2)))
        for mark in range(16):
            self.assertEqual(lathe.soonest_on(mark) is None, mark % 4 != 0)
        self.assertEqual(lathe.soonest_on(0), (25, 8))
        self.assertEqual(lathe.soonest_on(12), (65, 8))

    def test_as_soonest_at_tells(self):
        for teeth in (2, 3, 16, 63, 64):
            lathe = Lathe(SHOP, teeth)
            for train, ratio in (((60, 40), (3, 2)), ((20, 30, 40, 50), (8, 15)), ((40, 20), (2, 1))):
                do_all(lathe, (("mount", train), ("close", None), ("open", None), ("move", (-17, 3)), ("turn", (2, 7))))
                for mark in range(teeth):
                    wanted = soonest_at(ratio, teeth, lathe.off(), mark)
                    self.assertEqual(lathe.soonest_on(mark), None if wanted is None else wanted[0])

    def test_marks_that_are_not_there(self):
        for deeds in (CLOSED[:1], OPENED):
            lathe = lathe_of(*deeds)
            for mark in (-1, 16, 17, -16, GREAT, -GREAT):
                self.assertIs(refusal_of(lathe.soonest_on, mark), BadNumber)
            for mark in (0, 15):
                self.assertIsNone(refusal_of(lathe.soonest_on, mark))
        for teeth in (2, 64):
            lathe = Lathe(SHOP, teeth)
            lathe.mount((60, 40))
            self.assertIs(refusal_of(lathe.soonest_on, teeth), BadNumber)
            self.assertIsNone(lathe.soonest_on(teeth - 1))

    def test_the_order_of_refusals(self):
        for mark in (0, 15, -1, 16, GREAT):
            self.assertIs(refusal_of(lathe_of().soonest_on, mark), NoTrain)
            self.assertIs(refusal_of(lathe_of(*CLOSED).soonest_on, mark), WrongNut)


class SpoiltTest(unittest.TestCase):
    def cut_at(self, train, closings):
        lathe = lathe_of(("mount", train), ("close", None), ("open", None))
        now = 0
        for closing in closings:
            lathe.move((closing - now, 1))
            lathe.close_nut()
            lathe.cut((1, 3))
            lathe.open_nut()
            now = closing
        return lathe

    def check_told(self, lathe, wanted):
        told = lathe.spoilt()
        self.assertEqual(told, wanted)
        self.assertIs(type(told), tuple)
        self.assertTrue(all(is_whole(number) for number in told[:3]))
        check_marks(self, told[3], wanted[3])

    def test_not_spoilt(self):
        self.assertIsNone(lathe_of().spoilt())
        self.assertIsNone(lathe_of(*OPENED).spoilt())
        self.assertIsNone(self.cut_at((60, 40), [0, 0, 3, -3, 30, -300]).spoilt())
        self.assertIsNone(self.cut_at((20, 40), [1, 2, 3, -7]).spoilt())

    def test_a_closing_beside_the_first_groove_without_a_pass_spoils_nothing(self):
        lathe = lathe_of(*OPENED, ("move", (1, 1)), ("close", None), ("turn", (5, 1)))
        self.assertIsNone(lathe.spoilt())
        lathe.cut((1, 1000))
        self.check_told(lathe, (1, 2, 1, list(range(16))))

    def test_by_hand(self):
        self.check_told(self.cut_at((60, 40), [0, 1]), (2, 2, 1, list(range(16))))
        self.check_told(self.cut_at((40, 50), [5]), (1, 1, 1, [1, 5, 9, 13]))
        self.check_told(self.cut_at((20, 30, 40, 50), [8, 0, -3]), (3, 3, 5, [5, 13]))

    def test_the_first_such_pass_is_told(self):
        self.check_told(self.cut_at((40, 50), [0, 4, 7, 5, 0, 6]), (3, 3, 3, [3, 7, 11, 15]))
        self.check_told(self.cut_at((40, 50), [0, 4, 5, 7, 0, 6]), (3, 1, 1, [1, 5, 9, 13]))

    def test_as_the_grooves_and_the_dial_tell(self):
        for train, ratio in (((60, 40), (3, 2)), ((20, 30, 40, 50), (8, 15)), ((50, 80), (5, 8)), ((80, 50), (8, 5))):
            for closing in range(-17, 18):
                lathe = self.cut_at(train, [0, closing])
                groove = lathe.passes()[1][1]
                if closing % ratio[0] == 0:
                    self.assertEqual(groove, 0)
                    self.assertIsNone(lathe.spoilt())
                else:
                    wanted = (2, groove, least_closing(ratio, groove), marks_of(ratio, 16, groove))
                    self.check_told(lathe, wanted)
                    self.assertIn(closing % 16, lathe.spoilt()[3])

    def test_a_new_piece_is_not_spoilt(self):
        lathe = self.cut_at((60, 40), [0, 1])
        told = lathe.spoilt()
        lathe.mount((60, 40))
        self.assertIsNone(lathe.spoilt())
        lathe.take_back()
        self.assertEqual(lathe.spoilt(), told)

    def test_a_spoiling_pass_taken_back(self):
        lathe = self.cut_at((60, 40), [0, 1])
        lathe.take_back()
        self.assertIsNotNone(lathe.spoilt())
        lathe.take_back()
        self.assertIsNone(lathe.spoilt())


class AskingTest(unittest.TestCase):
    def test_to_ask_changes_nothing(self):
        for deeds in ((), CLOSED[:1], CLOSED, CLOSED + (("cut", (1, 1)),), OPENED, OPENED + (("move", (5, 2)),)):
            lathe = lathe_of(*deeds)
            before = tell_all(lathe, 16)
            for name in ("stand", "mounted", "pitch", "work", "screw", "nut", "off", "turned", "moved", "passes",
                         "book", "marks", "soonest", "spoilt"):
                one = answer_of(getattr(lathe, name))
                self.assertEqual(answer_of(getattr(lathe, name)), one)
                self.assertEqual(tell_all(lathe, 16), before)
            for mark in range(-2, 18):
                answer_of(lathe.soonest_on, mark)
            for pitch in ((1, 2), (1, 0), (1000, 1)):
                answer_of(lathe.wheels_for, pitch)
            self.assertEqual(tell_all(lathe, 16), before)
            self.assertEqual(len(lathe.book()), len(deeds))


if __name__ == "__main__":
    unittest.main()
