"""A piece on the lathe: where work and carriage stand, how the nut stands, and what was done to it."""

from threadlathe.exact import difference, product, sum_of
from threadlathe.grooves import groove_of
from threadlathe.soon import soonest_safe
from threadlathe.wheels import ratio_of

NOUGHT = (0, 1)


def counted(count, amount):
    return sum_of(count, (abs(amount[0]), amount[1]))


class Piece:
    def __init__(self, train):
        # An empty train stands for none: so a new lathe, too, has something that rests at 0.
        self.train = train
        self.ratio = ratio_of(train) if len(train) > 0 else None
        self.work_turns = NOUGHT
        self.place = NOUGHT
        self.closed = False
        self.first = None
        self.turn_count = NOUGHT
        self.move_count = NOUGHT
        self.cuts = []

    def twin(self):
        other = Piece(self.train)
        other.work_turns = self.work_turns
        other.place = self.place
        other.closed = self.closed
        other.first = self.first
        other.turn_count = self.turn_count
        other.move_count = self.move_count
        other.cuts = list(self.cuts)
        return other

    def screw(self):
        if self.ratio is None:
            return NOUGHT
        return product(self.ratio, self.work_turns)

    def off(self):
        if self.first is None:
            return None
        carried = product(self.ratio, difference(self.work_turns, self.first[1]))
        return difference(difference(self.place, self.first[0]), carried)

    def next_safe(self):
        # Ahead of the first closing the nut may be closed at once, and that closing is 0.
        if self.first is None:
            return (NOUGHT, 0)
        return soonest_safe(self.ratio, self.off())

    def last_groove(self):
        if len(self.cuts) == 0:
            return None
        return self.cuts[-1][1]

    def turn(self, turns):
        self.work_turns = sum_of(self.work_turns, turns)
        self.turn_count = counted(self.turn_count, turns)
        if self.closed:
            self.place = sum_of(self.place, product(self.ratio, turns))

    def move(self, way):
        self.place = sum_of(self.place, way)
        self.move_count = counted(self.move_count, way)

    def close_nut(self):
        self.closed = True
        if self.first is None:
            self.first = (self.place, self.work_turns)

    def open_nut(self):
        self.closed = False

    def cut(self, turns):
        # The nut is closed, so off is the whole number at which it was closed.
        closing = self.off()[0]
        self.cuts.append((closing, groove_of(self.ratio, closing)))
        self.turn(turns)
