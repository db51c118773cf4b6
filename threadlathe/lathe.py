"""The lathe: its deeds, which are refused or stand in its book, and what it tells."""

from threadlathe.book import Book
from threadlathe.dial import marks_of, reading_of, spoiling_at
from threadlathe.errors import BadNumber, NoMeeting, NoTrain, UnknownWheel, WrongNut
from threadlathe.exact import is_less, least_terms
from threadlathe.grooves import least_closing
from threadlathe.piece import NOUGHT, Piece, counted
from threadlathe.soon import soonest_at
from threadlathe.wheels import choose_train

MOST_COUNTED = (100000, 1)
LEAST_PITCH = (1, 100)
GREATEST_PITCH = (100, 1)


def is_within(number, least, most):
    return number >= least and number <= most


def has_two_alike(wheels):
    return len(set(wheels)) < len(wheels)


def check_shop(wheels):
    if not is_within(len(wheels), 2, 12):
        raise BadNumber("a shop has 2 to 12 wheels")
    for wheel in wheels:
        if not is_within(wheel, 10, 127):
            raise BadNumber("a wheel has 10 to 127 teeth")
    if has_two_alike(wheels):
        raise BadNumber("no two wheels of a shop are alike")


def check_dial(teeth):
    if not is_within(teeth, 2, 64):
        raise BadNumber("a dial has 2 to 64 teeth")


def check_known(shop, train):
    for wheel in train:
        if wheel not in shop:
            raise UnknownWheel("the shop has not all wheels of the train")


def check_train(train):
    if len(train) != 2 and len(train) != 4:
        raise BadNumber("a train has two or four wheels")
    if has_two_alike(train):
        raise BadNumber("a train names no wheel twice")


def check_mounted(piece):
    if piece.ratio is None:
        raise NoTrain("no train is mounted")


def check_nut_open(piece):
    if piece.closed:
        raise WrongNut("the nut is closed")


def check_nut_closed(piece):
    if not piece.closed:
        raise WrongNut("the nut is open")


def check_bottom(fraction):
    # As it is handed in: behind least terms neither a bottom of nought nor one too great could be seen.
    if not is_within(fraction[1], 1, 1000):
        raise BadNumber("a bottom is 1 to 1000")


def check_count(count, amount):
    if is_less(MOST_COUNTED, counted(count, amount)):
        raise BadNumber("the turns and the moves of a piece come to 100000 at most")


def check_pitch(pitch):
    check_bottom(pitch)
    if is_less(pitch, LEAST_PITCH) or is_less(GREATEST_PITCH, pitch):
        raise BadNumber("a pitch is 1/100 to 100")


class Lathe:
    def __init__(self, wheels, teeth):
        check_shop(wheels)
        check_dial(teeth)
        self.shop = tuple(wheels)
        self.teeth = teeth
        self.piece = Piece(())
        self.record = Book()

    def enter(self, word, what, after):
        # The piece before is never changed again: it stands in the book for the deed to be taken back.
        self.record.write(word, what, self.piece)
        self.piece = after
        return self.stand()

    def mount(self, train):
        check_known(self.shop, train)
        check_nut_open(self.piece)
        check_train(train)
        mounted = tuple(train)
        return self.enter("mount", mounted, Piece(mounted))

    def turn(self, turns):
        check_mounted(self.piece)
        check_bottom(turns)
        check_count(self.piece.turn_count, turns)
        after = self.piece.twin()
        after.turn(turns)
        return self.enter("turn", least_terms(turns[0], turns[1]), after)

    def wait(self):
        check_mounted(self.piece)
        check_nut_open(self.piece)
        turns = self.piece.next_safe()[0]
        check_count(self.piece.turn_count, turns)
        after = self.piece.twin()
        after.turn(turns)
        return self.enter("wait", None, after)

    def close_nut(self):
        check_mounted(self.piece)
        check_nut_open(self.piece)
        off = self.piece.off()
        if off is not None and off[1] != 1:
            raise NoMeeting("the carriage is not off by a whole number")
        after = self.piece.twin()
        after.close_nut()
        return self.enter("close", None, after)

    def open_nut(self):
        check_mounted(self.piece)
        check_nut_closed(self.piece)
        after = self.piece.twin()
        after.open_nut()
        return self.enter("open", None, after)

    def move(self, way):
        check_mounted(self.piece)
        check_nut_open(self.piece)
        check_bottom(way)
        check_count(self.piece.move_count, way)
        after = self.piece.twin()
        after.move(way)
        return self.enter("move", least_terms(way[0], way[1]), after)

    def cut(self, turns):
        check_mounted(self.piece)
        check_nut_closed(self.piece)
        check_bottom(turns)
        if turns[0] <= 0:
            raise BadNumber("the turns of a pass are above nought")
        check_count(self.piece.turn_count, turns)
        after = self.piece.twin()
        after.cut(turns)
        return self.enter("cut", least_terms(turns[0], turns[1]), after)

    def take_back(self):
        self.piece = self.record.strike_last()
        return self.stand()

    def stand(self):
        return (self.piece.place, self.reading(), self.piece.last_groove())

    def reading(self):
        off = self.piece.off()
        if off is None:
            return None
        return reading_of(off, self.teeth)

    def mounted(self):
        return self.piece.train

    def pitch(self):
        return self.piece.ratio

    def work(self):
        return self.piece.work_turns

    def screw(self):
        return self.piece.screw()

    def nut(self):
        return self.piece.closed

    def off(self):
        return self.piece.off()

    def turned(self):
        return self.piece.turn_count

    def moved(self):
        return self.piece.move_count

    def passes(self):
        return list(self.piece.cuts)

    def book(self):
        return self.record.deeds()

    def wheels_for(self, pitch):
        check_pitch(pitch)
        return choose_train(self.shop, pitch)

    def marks(self):
        check_mounted(self.piece)
        return [spoiling_at(self.piece.ratio, self.teeth, mark) for mark in range(self.teeth)]

    def soonest(self):
        check_mounted(self.piece)
        check_nut_open(self.piece)
        meeting = self.piece.next_safe()
        return (meeting[0], meeting[1] % self.teeth)

    def soonest_on(self, mark):
        check_mounted(self.piece)
        check_nut_open(self.piece)
        if not is_within(mark, 0, self.teeth - 1):
            raise BadNumber("the dial has no such mark")
        off = self.piece.off()
        if off is None:
            return NOUGHT if mark == 0 else None
        meeting = soonest_at(self.piece.ratio, self.teeth, off, mark)
        return None if meeting is None else meeting[0]

    def spoilt(self):
        ratio = self.piece.ratio
        for number, made in enumerate(self.piece.cuts, start=1):
            groove = made[1]
            if groove != 0:
                return (number, groove, least_closing(ratio, groove), marks_of(ratio, self.teeth, groove))
        return None
