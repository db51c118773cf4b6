"""Long walks of deeds, good and refused, taken back too, on the lathe and on a plain one beside it."""

import random
import unittest

from helper import ORDER, PlainLathe, check_fraction, do_deed, is_whole, refusal_of, tell_all
from threadlathe.errors import BadNumber, BookFull, NoMeeting, NothingDone, NoTrain, UnknownWheel, WrongNut
from threadlathe.lathe import Lathe
from threadlathe.walk import replay

SHOPS = (
    ((20, 30, 40, 60), 6),
    ((20, 30, 40, 50, 60), 8),
    ((10, 127), 2),
    ((12, 16, 18, 24), 9),
)

STEPS = 320

# Each pair of refusals that can be due at once; NoTrain and a full book never meet, and
# where the nut is closed off is always a whole number.
PAIRS = {
    "mount": [(UnknownWheel, WrongNut), (UnknownWheel, BadNumber), (UnknownWheel, BookFull),
              (WrongNut, BadNumber), (WrongNut, BookFull), (BadNumber, BookFull)],
    "turn": [(NoTrain, BadNumber), (BadNumber, BookFull)],
    "wait": [(WrongNut, BadNumber), (WrongNut, BookFull), (BadNumber, BookFull)],
    "close": [(WrongNut, BookFull), (NoMeeting, BookFull)],
    "open": [(NoTrain, WrongNut), (WrongNut, BookFull)],
    "move": [(NoTrain, BadNumber), (WrongNut, BadNumber), (WrongNut, BookFull), (BadNumber, BookFull)],
    "cut": [(NoTrain, WrongNut), (NoTrain, BadNumber), (WrongNut, BadNumber), (WrongNut, BookFull),
            (BadNumber, BookFull)],
}


def some_train(chance, shop):
    if chance.random() < 0.8:
        size = 4 if len(shop) >= 4 and chance.random() < 0.5 else 2
        train = chance.sample(shop, size)
    else:
        train = [chance.choice(shop + (11, 9, -20)) for count in range(chance.randrange(7))]
    return train if chance.random() < 0.5 else tuple(train)


def some_amount(chance):
    sort = chance.random()
    if sort < 0.03:
        return (chance.randrange(-3, 4), chance.choice((0, -1, 1001, 2000, 10 ** 60, -10 ** 60)))
    if sort < 0.06:
        return (chance.choice((-1, 1)) * chance.choice((10 ** 60, 100001, 99990, 100000)), 1)
    if sort < 0.1:
        return (chance.randrange(-5000, 5000), chance.choice((999, 1000, 7, 360)))
    if sort < 0.6:
        return (chance.randrange(-4, 13), 1)
    return (chance.randrange(-12, 25), chance.choice((2, 3, 4, 6, 12)))


def some_deed(chance, shop):
    word = chance.choice(("turn", "wait", "close", "close", "close", "open", "move", "cut", "cut"))
    if chance.random() < 0.03:
        word = "mount"
    if word == "mount":
        return (word, some_train(chance, shop))
    if word in ("turn", "move", "cut"):
        return (word, some_amount(chance))
    return (word, None)


def walks():
    for seed in range(48):
        shop, teeth = SHOPS[seed % len(SHOPS)]
        yield seed, shop, teeth


class WalksTest(unittest.TestCase):
    def check_kinds(self, lathe):
        carriage, reading, groove = lathe.stand()
        for fraction in (carriage, lathe.work(), lathe.screw(), lathe.turned(), lathe.moved()):
            check_fraction(self, fraction)
        for fraction in (reading, lathe.off(), lathe.pitch()):
            if fraction is not None:
                check_fraction(self, fraction)
        self.assertTrue(groove is None or is_whole(groove))
        self.assertIs(type(lathe.nut()), bool)
        self.assertIs(type(lathe.mounted()), tuple)
        self.assertIs(type(lathe.passes()), list)
        for made in lathe.passes():
            self.assertIs(type(made), tuple)
            self.assertTrue(is_whole(made[0]) and is_whole(made[1]))
        self.assertIs(type(lathe.book()), list)
        for deed in lathe.book():
            self.assertIs(type(deed), tuple)
            self.assertIs(type(deed[0]), str)
            self.assertTrue(deed[1] is None or type(deed[1]) is tuple)

    def step(self, chance, lathe, plain):
        if chance.random() < 0.05:
            if plain.book:
                plain.take_back()
                self.assertEqual(lathe.take_back(), plain.stand())
            else:
                self.assertIs(refusal_of(lathe.take_back), NothingDone)
            return
        word, what = some_deed(chance, tuple(plain.shop))
        due = plain.due(word, what)
        if due:
            self.assertIs(refusal_of(do_deed, lathe, word, what), due[0], (word, what, due))
        else:
            plain.do(word, what)
            self.assertEqual(do_deed(lathe, word, what), plain.stand())

    def test_walks_tell_what_the_plain_lathe_tells(self):
        for seed, shop, teeth in walks():
            chance = random.Random(seed)
            lathe, plain = Lathe(shop, teeth), PlainLathe(shop, teeth)
            with self.subTest(seed):
                for count in range(STEPS):
                    self.step(chance, lathe, plain)
                    if count % 10 == 0 or count > STEPS - 10:
                        self.assertEqual(tell_all(lathe, teeth), plain.tell_all())
                        self.check_kinds(lathe)
                self.assertEqual(tell_all(replay(shop, teeth, lathe.book()), teeth), plain.tell_all())
                while plain.book:
                    plain.take_back()
                    self.assertEqual(lathe.take_back(), plain.stand())
                    self.assertEqual(lathe.book(), plain.book)
                self.assertEqual(tell_all(lathe, teeth), tell_all(Lathe(shop, teeth), teeth))


class PairsTest(unittest.TestCase):
    """Every pair of refusals that can be due at once, brought about on purpose."""

    SHOP = (20, 30, 40, 60)

    # Each way to stand: no train, nut open, nut closed; each near to 100000 turns and moves, off by 1 of a pitch 2.
    OPENED = (("mount", (40, 20)), ("turn", (99999, 1)), ("turn", (3, 4)), ("move", (99999, 1)), ("close", None),
              ("open", None), ("move", (1, 1)))
    CLOSED = OPENED + (("close", None),)
    # Off by a half: the nut does not close here.
    HALFWAY = OPENED[:-1] + (("move", (1, 2)),)

    AMOUNTS = ((0, 1), (1, 4), (1, 1), (-1, 1), (0, 0), (1, -1), (1, 1000), (1, 1001), (10 ** 60, 1))
    TRAINS = ((20, 40), (20,), (), (20, 20), (20, 41), (41,), (41, 41), (20, 30, 40, 60), (20, 30, 40, 20))

    def ways(self):
        for deeds in ((), self.OPENED, self.CLOSED, self.HALFWAY):
            yield deeds
            if deeds:
                # Turns of nought fill the book and change nothing else.
                yield deeds + (("turn", (0, 1)),) * (100 - len(deeds))

    def tries(self):
        for train in self.TRAINS:
            yield ("mount", train)
        for word in ("turn", "move", "cut"):
            for amount in self.AMOUNTS:
                yield (word, amount)
        for word in ("wait", "close", "open"):
            yield (word, None)

    def test_the_first_in_the_order_is_told_and_nothing_is_changed(self):
        seen = {}
        for deeds in self.ways():
            lathe, plain = Lathe(self.SHOP, 6), PlainLathe(self.SHOP, 6)
            for word, what in deeds:
                self.assertEqual(plain.due(word, what), [])
                plain.do(word, what)
                do_deed(lathe, word, what)
            before = tell_all(lathe, 6)
            self.assertEqual(before, plain.tell_all())
            for word, what in self.tries():
                due = plain.due(word, what)
                if due:
                    self.assertIs(refusal_of(do_deed, lathe, word, what), due[0], (deeds, word, what, due))
                    self.assertEqual(tell_all(lathe, 6), before)
                    pairs = seen.setdefault(word, set())
                    pairs.update((one, other) for one in due for other in due if ORDER.index(one) < ORDER.index(other))
        self.assertEqual(seen, {word: set(pairs) for word, pairs in PAIRS.items()})


if __name__ == "__main__":
    unittest.main()
