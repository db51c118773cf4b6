"""What several tests need: exact kinds, fractions as the document tells them, and a plain lathe to hold others to."""

import copy
from fractions import Fraction
from math import gcd

from threadlathe.errors import BadNumber, BookFull, LatheError, NoMeeting, NoTrain, UnknownWheel, WrongNut
from threadlathe.wheels import choose_train


def is_whole(value):
    # type, not isinstance: True and False are no numbers here.
    return type(value) is int


def check_fraction(case, told):
    """Fails unless told is a tuple of two whole numbers in least terms with a bottom of 1 or more."""
    case.assertIs(type(told), tuple)
    case.assertEqual(len(told), 2)
    case.assertTrue(is_whole(told[0]) and is_whole(told[1]), told)
    case.assertGreaterEqual(told[1], 1)
    case.assertEqual(gcd(told[0], told[1]), 1)


def same_fraction(case, told, wanted):
    """Fails unless told is just the fraction that the Fraction wanted tells."""
    check_fraction(case, told)
    case.assertEqual(told, (wanted.numerator, wanted.denominator))


def as_fraction(pair):
    return Fraction(pair[0], pair[1])


def check_marks(case, told, wanted):
    """Fails unless told is a list of just the whole numbers wanted."""
    case.assertIs(type(told), list)
    case.assertTrue(all(is_whole(mark) for mark in told), told)
    case.assertEqual(told, wanted)


class PlainPiece:
    """A piece on the lathe as points 7 and 8 tell it, step by step, in Python's own fractions."""

    def __init__(self, ratio):
        self.ratio = as_fraction(ratio)
        self.work = Fraction(0)
        self.carriage = Fraction(0)
        self.closed = False
        self.first = None

    def turn(self, turns):
        self.work += turns
        if self.closed:
            self.carriage += self.ratio * turns

    def move(self, way):
        self.carriage += way

    def close_nut(self):
        self.closed = True
        if self.first is None:
            self.first = (self.carriage, self.work)

    def open_nut(self):
        self.closed = False

    def off(self):
        return self.carriage - self.first[0] - self.ratio * (self.work - self.first[1])

    def place_at_mark_of_work(self):
        """Where a pass made now crosses the line on the work that stands at the tool after whole turns."""
        return self.carriage - self.ratio * (self.work % 1)


ORDER = (UnknownWheel, NoTrain, WrongNut, BadNumber, NoMeeting, BookFull)


def pair_of(fraction):
    return (fraction.numerator, fraction.denominator)


def refusal_of(deed, *what):
    """The class with which a deed or a question is refused, None where it is not."""
    try:
        deed(*what)
    except LatheError as refusal:
        return type(refusal)
    return None


def answer_of(question, *what):
    """What is answered, or the class of the refusal."""
    try:
        return question(*what)
    except LatheError as refusal:
        return type(refusal)


def tell_all(lathe, teeth):
    """All that a lathe with a dial of so many teeth tells, refusals too, in the document's order."""
    told = {}
    for name in ("stand", "mounted", "pitch", "work", "screw", "nut", "off", "turned", "moved", "passes", "book"):
        told[name] = getattr(lathe, name)()
    told["wheels_for"] = lathe.wheels_for((2, 3))
    for name in ("marks", "soonest", "spoilt"):
        told[name] = answer_of(getattr(lathe, name))
    told["soonest_on"] = [answer_of(lathe.soonest_on, mark) for mark in range(-1, teeth + 1)]
    return told


def do_deed(lathe, word, what):
    """Does a deed that is told as a book tells it, by the names of the interface."""
    if word == "mount":
        return lathe.mount(what)
    if word in ("turn", "move", "cut"):
        return getattr(lathe, word)(what)
    return {"wait": lathe.wait, "close": lathe.close_nut, "open": lathe.open_nut}[word]()


def do_all(lathe, deeds):
    for word, what in deeds:
        do_deed(lathe, word, what)
    return lathe


class PlainLathe:
    """The lathe as points 15 to 22 tell it, in Python's own fractions, with each pass, mark and closing sought out."""

    def __init__(self, wheels, teeth):
        self.shop = list(wheels)
        self.teeth = teeth
        self.train = ()
        self.piece = PlainPiece((1, 1))
        self.turned = Fraction(0)
        self.moved = Fraction(0)
        self.passes = []
        self.book = []
        self.before = []

    def mark_of(self, closing):
        return closing % self.teeth

    def groove_of(self, closing):
        return int((Fraction(closing) % self.piece.ratio) * self.piece.ratio.denominator)

    def next_safe(self):
        """The turns until the first groove comes, and that closing."""
        if self.piece.first is None:
            return (Fraction(0), 0)
        closing = self.piece.off() // 1
        while self.groove_of(closing) != 0:
            closing -= 1
        return ((self.piece.off() - closing) / self.piece.ratio, closing)

    def next_safe_on(self, mark):
        if self.piece.first is None:
            return Fraction(0) if mark == 0 else None
        closing = self.piece.off() // 1
        for steps in range(self.piece.ratio.numerator * self.teeth):
            if self.mark_of(closing) == mark and self.groove_of(closing) == 0:
                return (self.piece.off() - closing) / self.piece.ratio
            closing -= 1
        return None

    def bad_amount(self, word, what):
        top, bottom = what
        if not 1 <= bottom <= 1000:
            return True
        if word == "cut" and top <= 0:
            return True
        count = self.moved if word == "move" else self.turned
        return count + abs(Fraction(top, bottom)) > 100000

    def due(self, word, what):
        """All refusals that are due at once."""
        due = []
        if word == "mount":
            if any(wheel not in self.shop for wheel in what):
                due.append(UnknownWheel)
            if len(what) not in (2, 4) or any(what.count(wheel) > 1 for wheel in what):
                due.append(BadNumber)
        elif self.train == ():
            due.append(NoTrain)
        if self.piece.closed and word in ("mount", "wait", "close", "move"):
            due.append(WrongNut)
        if not self.piece.closed and word in ("open", "cut"):
            due.append(WrongNut)
        if word in ("turn", "move", "cut") and self.bad_amount(word, what):
            due.append(BadNumber)
        if word == "wait" and self.turned + self.next_safe()[0] > 100000:
            due.append(BadNumber)
        if word == "close" and self.piece.first is not None and self.piece.off().denominator != 1:
            due.append(NoMeeting)
        if len(self.book) == 100:
            due.append(BookFull)
        return [refusal for refusal in ORDER if refusal in due]

    def keep(self):
        return (self.train, copy.copy(self.piece), self.turned, self.moved, list(self.passes))

    def do(self, word, what):
        """Does a deed that is not refused."""
        self.before.append(self.keep())
        if word == "mount":
            self.train = tuple(what)
            self.piece = PlainPiece(ratio_by_hand(what))
            self.turned, self.moved, self.passes = Fraction(0), Fraction(0), []
            what = self.train
        elif word == "close":
            self.piece.close_nut()
        elif word == "open":
            self.piece.open_nut()
        elif word == "wait":
            turns = self.next_safe()[0]
            self.piece.turn(turns)
            self.turned += turns
        else:
            amount = as_fraction(what)
            self.do_amount(word, amount)
            what = pair_of(amount)
        self.book.append((word, what))

    def do_amount(self, word, amount):
        if word == "move":
            self.piece.move(amount)
            self.moved += abs(amount)
            return
        if word == "cut":
            closing = int(self.piece.off())
            self.passes.append((closing, self.groove_of(closing)))
        self.piece.turn(amount)
        self.turned += abs(amount)

    def take_back(self):
        self.book.pop()
        self.train, self.piece, self.turned, self.moved, self.passes = self.before.pop()

    def stand(self):
        reading = None if self.piece.first is None else pair_of(self.piece.off() % self.teeth)
        return (pair_of(self.piece.carriage), reading, self.passes[-1][1] if self.passes else None)

    def spoiling_at(self, mark):
        for closing in range(mark, mark + self.piece.ratio.numerator * self.teeth, self.teeth):
            if self.groove_of(closing) != 0:
                return closing
        return None

    def marks(self):
        if self.train == ():
            return NoTrain
        return [self.spoiling_at(mark) for mark in range(self.teeth)]

    def soonest(self):
        if self.train == ():
            return NoTrain
        if self.piece.closed:
            return WrongNut
        turns, closing = self.next_safe()
        return (pair_of(turns), self.mark_of(closing))

    def soonest_on(self, mark):
        if self.train == ():
            return NoTrain
        if self.piece.closed:
            return WrongNut
        if mark < 0 or mark >= self.teeth:
            return BadNumber
        turns = self.next_safe_on(mark)
        return None if turns is None else pair_of(turns)

    def spoilt(self):
        beside = [number for number, made in enumerate(self.passes) if made[1] != 0]
        if not beside:
            return None
        groove = self.passes[beside[0]][1]
        round_of_all = self.piece.ratio.numerator * self.teeth
        closings = [closing for closing in range(round_of_all) if self.groove_of(closing) == groove]
        return (beside[0] + 1, groove, closings[0], sorted({self.mark_of(closing) for closing in closings}))

    def tell_all(self):
        ratio = self.piece.ratio
        return {
            "stand": self.stand(),
            "mounted": self.train,
            "pitch": pair_of(ratio) if self.train else None,
            "work": pair_of(self.piece.work),
            "screw": pair_of(ratio * self.piece.work),
            "nut": self.piece.closed,
            "off": None if self.piece.first is None else pair_of(self.piece.off()),
            "turned": pair_of(self.turned),
            "moved": pair_of(self.moved),
            "passes": self.passes,
            "book": self.book,
            "wheels_for": choose_train(self.shop, (2, 3)),
            "marks": self.marks(),
            "soonest": self.soonest(),
            "spoilt": self.spoilt(),
            "soonest_on": [self.soonest_on(mark) for mark in range(-1, self.teeth + 1)],
        }


def ratio_by_hand(train):
    if len(train) == 2:
        return (train[0], train[1])
    return (train[0] * train[2], train[1] * train[3])
