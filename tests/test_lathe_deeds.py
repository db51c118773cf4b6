"""Each deed: what it changes of the lathe, what it leaves, and the stand that it answers with."""

import unittest
from fractions import Fraction

from helper import PlainPiece, do_all, pair_of, refusal_of
from threadlathe.errors import NoMeeting
from threadlathe.lathe import Lathe

SHOP = (20, 30, 40, 50, 60)

TOLD = ("stand", "mounted", "pitch", "work", "screw", "nut", "off", "turned", "moved", "passes", "spoilt")


class DeedTest(unittest.TestCase):
    def lathe(self, *deeds):
        return do_all(Lathe(SHOP, 16), deeds)

    def told(self, lathe):
        return {name: getattr(lathe, name)() for name in TOLD}

    def check_deed(self, lathe, entry, deed, what, changed):
        """Does a deed; fails unless just what is named is changed, and the deed stands last in the book."""
        wanted = self.told(lathe)
        wanted.update(changed)
        book = lathe.book()
        answer = deed(*what)
        self.assertEqual(answer, wanted["stand"])
        self.assertEqual(self.told(lathe), wanted)
        self.assertEqual(lathe.book(), book + [entry])


class MountTest(DeedTest):
    def test_the_first_train(self):
        for train in ((60, 40), [60, 40]):
            lathe = self.lathe()
            self.check_deed(
                lathe, ("mount", (60, 40)), lathe.mount, [train], {"mounted": (60, 40), "pitch": (3, 2)}
            )
            self.assertIs(type(lathe.mounted()), tuple)
            self.assertIs(type(lathe.book()[0][1]), tuple)

    def test_four_wheels(self):
        lathe = self.lathe()
        self.check_deed(
            lathe,
            ("mount", (20, 30, 40, 50)),
            lathe.mount,
            [[20, 30, 40, 50]],
            {"mounted": (20, 30, 40, 50), "pitch": (8, 15)},
        )
        lathe.mount((40, 30, 20, 50))
        self.assertEqual((lathe.mounted(), lathe.pitch()), ((40, 30, 20, 50), (8, 15)))

    def test_a_new_piece_begins(self):
        lathe = self.lathe(
            ("mount", (60, 40)),
            ("turn", (-7, 2)),
            ("move", (5, 3)),
            ("close", None),
            ("cut", (2, 1)),
            ("open", None),
            ("move", (-2, 1)),
            ("close", None),
            ("cut", (1, 1)),
            ("open", None),
        )
        self.assertIsNotNone(lathe.spoilt())
        self.check_deed(
            lathe,
            ("mount", (20, 30)),
            lathe.mount,
            [(20, 30)],
            {
                "stand": ((0, 1), None, None),
                "mounted": (20, 30),
                "pitch": (2, 3),
                "work": (0, 1),
                "screw": (0, 1),
                "off": None,
                "turned": (0, 1),
                "moved": (0, 1),
                "passes": [],
                "spoilt": None,
            },
        )
        self.assertEqual(lathe.soonest(), ((0, 1), 0))

    def test_the_same_train_again_is_a_new_piece(self):
        lathe = self.lathe(("mount", (60, 40)), ("turn", (1, 1)), ("move", (1, 1)), ("close", None), ("open", None))
        self.assertEqual(lathe.mount((60, 40)), ((0, 1), None, None))
        self.assertEqual((lathe.work(), lathe.turned(), lathe.moved()), ((0, 1), (0, 1), (0, 1)))
        self.assertIsNone(lathe.off())

    def test_a_new_first_closing_on_a_new_piece(self):
        lathe = self.lathe(("mount", (60, 40)), ("close", None), ("open", None), ("mount", (60, 40)))
        lathe.move((1, 7))
        self.assertEqual(lathe.close_nut(), ((1, 7), (0, 1), None))
        self.assertEqual(lathe.off(), (0, 1))


class TurnTest(DeedTest):
    def test_the_nut_open_ahead_of_the_first_closing(self):
        lathe = self.lathe(("mount", (60, 40)), ("move", (1, 3)))
        self.check_deed(
            lathe,
            ("turn", (5, 2)),
            lathe.turn,
            [(10, 4)],
            {"work": (5, 2), "screw": (15, 4), "turned": (5, 2)},
        )
        self.check_deed(
            lathe,
            ("turn", (-3, 1)),
            lathe.turn,
            [(-3, 1)],
            {"work": (-1, 2), "screw": (-3, 4), "turned": (11, 2)},
        )

    def test_the_nut_open_behind_the_first_closing(self):
        lathe = self.lathe(("mount", (60, 40)), ("close", None), ("open", None))
        # Off falls by the pitch for each turn forward and rises by it for each turn backward.
        self.check_deed(
            lathe,
            ("turn", (1, 3)),
            lathe.turn,
            [(1, 3)],
            {"stand": ((0, 1), (31, 2), None), "work": (1, 3), "screw": (1, 2), "off": (-1, 2), "turned": (1, 3)},
        )
        self.check_deed(
            lathe,
            ("turn", (-2, 1)),
            lathe.turn,
            [(-2, 1)],
            {"stand": ((0, 1), (5, 2), None), "work": (-5, 3), "screw": (-5, 2), "off": (5, 2), "turned": (7, 3)},
        )

    def test_the_nut_closed(self):
        lathe = self.lathe(("mount", (60, 40)), ("move", (1, 4)), ("close", None))
        # The carriage goes along, nothing is cut, and off stays.
        self.check_deed(
            lathe,
            ("turn", (5, 1)),
            lathe.turn,
            [(5, 1)],
            {"stand": ((31, 4), (0, 1), None), "work": (5, 1), "screw": (15, 2), "turned": (5, 1)},
        )
        self.check_deed(
            lathe,
            ("turn", (-17, 3)),
            lathe.turn,
            [(-34, 6)],
            {"stand": ((-3, 4), (0, 1), None), "work": (-2, 3), "screw": (-1, 1), "turned": (32, 3)},
        )

    def test_the_nut_closed_beside_the_first_closing(self):
        lathe = self.lathe(("mount", (60, 40)), ("close", None), ("open", None), ("move", (-2, 1)), ("close", None))
        self.check_deed(
            lathe,
            ("turn", (1, 3)),
            lathe.turn,
            [(1, 3)],
            {"stand": ((-3, 2), (14, 1), None), "work": (1, 3), "screw": (1, 2), "turned": (1, 3)},
        )
        self.assertEqual(lathe.off(), (-2, 1))

    def test_a_turn_of_nought(self):
        for more in ((), (("close", None),)):
            lathe = self.lathe(("mount", (60, 40)), ("move", (1, 4)), ("turn", (2, 1)), *more)
            self.check_deed(lathe, ("turn", (0, 1)), lathe.turn, [(0, 1)], {})
            self.check_deed(lathe, ("turn", (0, 1)), lathe.turn, [(0, 7)], {})

    def test_turns_behind_a_pass_leave_its_groove_told(self):
        lathe = self.lathe(("mount", (60, 40)), ("close", None), ("cut", (4, 1)))
        self.assertEqual(lathe.turn((-4, 1)), ((0, 1), (0, 1), 0))
        self.assertEqual(lathe.passes(), [(0, 0)])


class WaitTest(DeedTest):
    def test_ahead_of_the_first_closing_no_turns(self):
        lathe = self.lathe(("mount", (60, 40)), ("turn", (1, 3)), ("move", (1, 7)))
        self.check_deed(lathe, ("wait", None), lathe.wait, [], {})

    def test_behind_it_until_the_first_groove_comes(self):
        lathe = self.lathe(("mount", (60, 40)), ("close", None), ("open", None), ("move", (5, 2)))
        # From 5/2 down to 0, the next multiple of 3: 5/2 over 3/2 are 5/3 turns.
        self.check_deed(
            lathe,
            ("wait", None),
            lathe.wait,
            [],
            {"stand": ((5, 2), (0, 1), None), "work": (5, 3), "screw": (5, 2), "off": (0, 1), "turned": (5, 3)},
        )
        self.check_deed(lathe, ("wait", None), lathe.wait, [], {})

    def test_from_below_nought(self):
        lathe = self.lathe(("mount", (60, 40)), ("close", None), ("open", None), ("turn", (1, 3)))
        # From -1/2 down to -3.
        self.check_deed(
            lathe,
            ("wait", None),
            lathe.wait,
            [],
            {"stand": ((0, 1), (13, 1), None), "work": (2, 1), "screw": (3, 1), "off": (-3, 1), "turned": (2, 1)},
        )
        lathe.close_nut()
        self.assertEqual(lathe.cut((1, 1)), ((3, 2), (13, 1), 0))
        self.assertEqual(lathe.passes(), [(-3, 0)])

    def test_a_whole_number_beside_the_first_groove_is_not_enough(self):
        lathe = self.lathe(("mount", (60, 40)), ("close", None), ("open", None), ("move", (4, 1)))
        lathe.wait()
        self.assertEqual((lathe.off(), lathe.turned()), ((3, 1), (2, 3)))

    def test_it_adds_to_turns_backward(self):
        lathe = self.lathe(("mount", (60, 40)), ("close", None), ("open", None), ("turn", (-1, 3)))
        lathe.wait()
        self.assertEqual((lathe.work(), lathe.off(), lathe.turned()), ((0, 1), (0, 1), (2, 3)))


class NutTest(DeedTest):
    def test_the_first_closing_is_good_anywhere(self):
        for way in ((0, 1), (1, 2), (-1, 3), (355, 113), (-99999, 1000)):
            for turns in ((0, 1), (1, 7), (-22, 9)):
                lathe = self.lathe(("mount", (60, 40)), ("turn", turns), ("move", way))
                place = lathe.stand()[0]
                self.check_deed(
                    lathe,
                    ("close", None),
                    lathe.close_nut,
                    [],
                    {"stand": (place, (0, 1), None), "nut": True, "off": (0, 1)},
                )
                self.assertIs(lathe.nut(), True)

    def test_to_open_it(self):
        lathe = self.lathe(("mount", (60, 40)), ("move", (1, 7)), ("close", None), ("turn", (1, 3)))
        self.check_deed(lathe, ("open", None), lathe.open_nut, [], {"nut": False})
        self.assertIs(lathe.nut(), False)

    def test_later_closings_where_off_is_a_whole_number(self):
        for whole in (0, 1, 2, 3, 17, -1, -2, -3, -40):
            lathe = self.lathe(("mount", (60, 40)), ("move", (1, 7)), ("close", None), ("open", None))
            lathe.move((whole, 1))
            self.check_deed(lathe, ("close", None), lathe.close_nut, [], {"nut": True})
            self.assertEqual(lathe.off(), (whole, 1))
            self.assertEqual(lathe.stand()[1], (whole % 16, 1))

    def test_off_comes_to_a_whole_number_by_turns_and_moves_together(self):
        lathe = self.lathe(("mount", (60, 40)), ("close", None), ("turn", (2, 5)), ("open", None))
        lathe.turn((1, 1))
        self.assertIs(refusal_of(lathe.close_nut), NoMeeting)
        lathe.move((1, 2))
        self.assertEqual(lathe.close_nut(), ((11, 10), (15, 1), None))
        self.assertEqual(lathe.off(), (-1, 1))

    def test_where_off_is_no_whole_number_it_does_not_close(self):
        for way in ((1, 2), (-1, 2), (1, 1000), (-1, 1000), (999, 1000), (7, 3), (-16001, 1000)):
            lathe = self.lathe(("mount", (60, 40)), ("close", None), ("open", None), ("move", way))
            before, book = self.told(lathe), lathe.book()
            self.assertIs(refusal_of(lathe.close_nut), NoMeeting)
            self.assertEqual(self.told(lathe), before)
            self.assertEqual(lathe.book(), book)

    def test_off_is_reckoned_from_the_first_closing_alone(self):
        lathe = self.lathe(("mount", (60, 40)), ("close", None), ("open", None), ("move", (1, 1)), ("close", None))
        lathe.open_nut()
        lathe.move((1, 1))
        lathe.close_nut()
        self.assertEqual(lathe.off(), (2, 1))
        lathe.open_nut()
        lathe.move((-2, 1))
        lathe.close_nut()
        self.assertEqual(lathe.off(), (0, 1))


class MoveTest(DeedTest):
    def test_ahead_of_the_first_closing(self):
        lathe = self.lathe(("mount", (60, 40)), ("turn", (1, 3)))
        self.check_deed(
            lathe, ("move", (5, 2)), lathe.move, [(10, 4)], {"stand": ((5, 2), None, None), "moved": (5, 2)}
        )
        self.check_deed(
            lathe, ("move", (-3, 1)), lathe.move, [(-6, 2)], {"stand": ((-1, 2), None, None), "moved": (11, 2)}
        )

    def test_behind_it(self):
        lathe = self.lathe(("mount", (60, 40)), ("close", None), ("cut", (2, 1)), ("open", None))
        self.check_deed(
            lathe,
            ("move", (-7, 2)),
            lathe.move,
            [(-7, 2)],
            {"stand": ((-1, 2), (25, 2), 0), "off": (-7, 2), "moved": (7, 2)},
        )
        self.check_deed(
            lathe,
            ("move", (39, 2)),
            lathe.move,
            [(39, 2)],
            {"stand": ((19, 1), (0, 1), 0), "off": (16, 1), "moved": (23, 1)},
        )

    def test_a_move_of_nought(self):
        lathe = self.lathe(("mount", (60, 40)), ("close", None), ("open", None), ("move", (1, 2)))
        self.check_deed(lathe, ("move", (0, 1)), lathe.move, [(0, 1)], {})
        self.check_deed(lathe, ("move", (0, 1)), lathe.move, [(0, 1000)], {})


class CutTest(DeedTest):
    def test_a_pass_in_the_first_groove(self):
        lathe = self.lathe(("mount", (60, 40)), ("move", (1, 4)), ("turn", (-1, 2)), ("close", None))
        self.check_deed(
            lathe,
            ("cut", (5, 2)),
            lathe.cut,
            [(10, 4)],
            {
                "stand": ((4, 1), (0, 1), 0),
                "work": (2, 1),
                "screw": (3, 1),
                "turned": (3, 1),
                "passes": [(0, 0)],
            },
        )
        self.assertIs(lathe.nut(), True)

    def test_a_second_pass_at_the_same_closing(self):
        lathe = self.lathe(("mount", (60, 40)), ("close", None), ("cut", (1, 1)), ("turn", (-1, 1)))
        self.check_deed(
            lathe,
            ("cut", (1, 3)),
            lathe.cut,
            [(1, 3)],
            {
                "stand": ((1, 2), (0, 1), 0),
                "work": (1, 3),
                "screw": (1, 2),
                "turned": (7, 3),
                "passes": [(0, 0), (0, 0)],
            },
        )

    def test_passes_at_closings_beside_the_first(self):
        # With the pitch 3/2 the closing k cuts groove 2 * k less whole threes.
        for closing, groove in ((1, 2), (2, 1), (3, 0), (4, 2), (-1, 1), (-2, 2), (-3, 0), (30, 0), (-31, 1)):
            lathe = self.lathe(("mount", (60, 40)), ("move", (1, 9)), ("close", None), ("cut", (1, 1)), ("open", None))
            lathe.move((closing, 1))
            lathe.close_nut()
            lathe.cut((7, 3))
            self.assertEqual(lathe.stand()[1:], ((closing % 16, 1), groove))
            self.assertEqual(lathe.passes(), [(0, 0), (closing, groove)])

    def test_where_each_pass_runs_by_the_place_on_the_work(self):
        for train, ratio in (((60, 40), (3, 2)), ((50, 20), (5, 2)), ((20, 30, 40, 50), (8, 15))):
            for closing in range(-9, 10):
                lathe = self.lathe(("mount", train), ("close", None), ("open", None), ("move", (closing, 1)))
                lathe.close_nut()
                lathe.cut((1, 1))
                piece = PlainPiece(ratio)
                piece.move(closing)
                shift = piece.place_at_mark_of_work() % piece.ratio
                self.assertEqual(lathe.passes(), [(closing, shift * piece.ratio.denominator)])

    def test_the_groove_told_is_the_last_passes(self):
        lathe = self.lathe(("mount", (60, 40)), ("close", None), ("cut", (1, 1)), ("open", None), ("move", (1, 1)))
        self.assertEqual(lathe.stand()[2], 0)
        lathe.close_nut()
        self.assertEqual(lathe.stand()[2], 0)
        self.assertEqual(lathe.cut((1, 1))[2], 2)
        lathe.open_nut()
        lathe.move((2, 1))
        lathe.close_nut()
        self.assertEqual(lathe.stand()[2], 2)
        self.assertEqual(lathe.cut((1, 1))[2], 0)
        self.assertEqual(lathe.passes(), [(0, 0), (1, 2), (3, 0)])

    def test_no_groove_is_cut_by_turns(self):
        lathe = self.lathe(("mount", (60, 40)), ("close", None), ("turn", (5, 1)), ("open", None), ("turn", (5, 1)))
        self.assertEqual(lathe.passes(), [])
        self.assertIsNone(lathe.stand()[2])


class WholePieceTest(DeedTest):
    def test_a_thread_is_cut_in_three_passes(self):
        lathe = self.lathe()
        self.assertEqual(lathe.mount((50, 20)), ((0, 1), None, None))
        self.assertEqual(lathe.move((1, 3)), ((1, 3), None, None))
        self.assertEqual(lathe.close_nut(), ((1, 3), (0, 1), None))
        self.assertEqual(lathe.cut((8, 1)), ((61, 3), (0, 1), 0))
        self.assertEqual(lathe.open_nut(), ((61, 3), (0, 1), 0))
        self.assertEqual(lathe.move((-20, 1)), ((1, 3), (12, 1), 0))
        self.assertEqual(lathe.turn((1, 5)), ((1, 3), (23, 2), 0))
        self.assertEqual(lathe.soonest(), ((9, 5), 7))
        self.assertEqual(lathe.wait(), ((1, 3), (7, 1), 0))
        self.assertEqual(lathe.off(), (-25, 1))
        self.assertEqual(lathe.close_nut(), ((1, 3), (7, 1), 0))
        self.assertEqual(lathe.cut((8, 1)), ((61, 3), (7, 1), 0))
        self.assertEqual((lathe.work(), lathe.screw()), ((18, 1), (45, 1)))
        self.assertEqual((lathe.turned(), lathe.moved()), ((18, 1), (61, 3)))
        self.assertEqual(lathe.passes(), [(0, 0), (-25, 0)])
        self.assertIsNone(lathe.spoilt())
        self.assertEqual(
            lathe.book(),
            [
                ("mount", (50, 20)),
                ("move", (1, 3)),
                ("close", None),
                ("cut", (8, 1)),
                ("open", None),
                ("move", (-20, 1)),
                ("turn", (1, 5)),
                ("wait", None),
                ("close", None),
                ("cut", (8, 1)),
            ],
        )

    def test_off_as_the_plain_piece_tells_it(self):
        lathe, piece = self.lathe(("mount", (20, 30, 40, 50))), PlainPiece((8, 15))
        for turns, way in ((1, 2), (-3, 5), (7, -4)):
            lathe.turn((turns, 7))
            piece.turn(Fraction(turns, 7))
            lathe.move((way, 9))
            piece.move(Fraction(way, 9))
        lathe.close_nut()
        piece.close_nut()
        lathe.turn((-5, 3))
        piece.turn(Fraction(-5, 3))
        lathe.open_nut()
        piece.open_nut()
        for turns, way in ((1, 2), (-3, 5), (7, -4)):
            lathe.turn((turns, 11))
            piece.turn(Fraction(turns, 11))
            lathe.move((way, 13))
            piece.move(Fraction(way, 13))
            self.assertEqual(lathe.off(), pair_of(piece.off()))
            self.assertEqual(lathe.stand()[:2], (pair_of(piece.carriage), pair_of(piece.off() % 16)))


if __name__ == "__main__":
    unittest.main()
