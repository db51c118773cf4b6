import itertools
import unittest
from fractions import Fraction

from helper import as_fraction, check_fraction, is_whole, same_fraction
from threadlathe.wheels import choose_train, ratio_of, trains_for

GREAT = 10 ** 60

PAIR = (127, 10)
THREE = (40, 20, 30)
FIVE = (60, 20, 50, 30, 40)
PRIMES = (11, 127, 13, 101, 17)
TWELVE = (120, 20, 100, 24, 80, 25, 60, 30, 50, 32, 48, 40)
SMALL_SHOPS = (PAIR, (10, 20), THREE, (45, 15, 30, 90), FIVE, PRIMES, (10, 12, 15, 18, 20, 24))


def plain_ratio(train):
    if len(train) == 2:
        return Fraction(train[0], train[1])
    return Fraction(train[0] * train[2], train[1] * train[3])


def plain_trains(shop):
    """All trains of a shop in the order of the document, by walking through all orders of its wheels."""
    trains = []
    for size in (2, 4):
        trains.extend(sorted(itertools.permutations(shop, size)))
    return trains


def plain_trains_by_pitch(shop):
    by_pitch = {}
    for train in plain_trains(shop):
        by_pitch.setdefault(plain_ratio(train), []).append(train)
    return by_pitch


def pair_of(fraction):
    return (fraction.numerator, fraction.denominator)


class RatioOfTest(unittest.TestCase):
    def test_two_wheels(self):
        self.assertEqual(ratio_of((20, 30)), (2, 3))
        self.assertEqual(ratio_of((30, 20)), (3, 2))
        self.assertEqual(ratio_of((127, 10)), (127, 10))
        self.assertEqual(ratio_of((40, 20)), (2, 1))

    def test_four_wheels(self):
        self.assertEqual(ratio_of((20, 30, 40, 50)), (8, 15))
        self.assertEqual(ratio_of((20, 40, 30, 50)), (3, 10))
        self.assertEqual(ratio_of((60, 20, 50, 30)), (5, 1))
        self.assertEqual(ratio_of((127, 10, 126, 11)), (8001, 55))

    def test_each_wheels_place_counts(self):
        for train in itertools.permutations((11, 13, 17, 19), 4):
            same_fraction(self, ratio_of(train), plain_ratio(train))

    def test_a_train_may_be_a_list_and_stays_as_it_was(self):
        for train in ([20, 30], [20, 30, 40, 50]):
            before = list(train)
            self.assertEqual(ratio_of(train), ratio_of(tuple(train)))
            self.assertEqual(train, before)
            check_fraction(self, ratio_of(train))


class TrainsForTest(unittest.TestCase):
    def check_trains(self, shop, pitch, wanted):
        told = trains_for(shop, pitch)
        self.assertIs(type(told), list)
        for train in told:
            self.assertIs(type(train), tuple)
            self.assertTrue(all(is_whole(wheel) for wheel in train))
        self.assertEqual(told, wanted)

    def test_two_and_four_wheels_by_hand(self):
        self.assertEqual(
            trains_for([20, 40, 30, 90, 60], (2, 3)),
            [
                (20, 30),
                (40, 60),
                (60, 90),
                (30, 20, 40, 90),
                (30, 90, 40, 20),
                (40, 20, 30, 90),
                (40, 90, 30, 20),
            ],
        )

    def test_trains_that_differ_at_any_place_are_all_told(self):
        told = trains_for([20, 30, 40, 50], (8, 15))
        self.assertEqual(
            told,
            [(20, 30, 40, 50), (20, 50, 40, 30), (40, 30, 20, 50), (40, 50, 20, 30)],
        )

    def test_two_wheels_come_ahead_of_four_though_their_teeth_are_greater(self):
        told = trains_for((90, 45, 15, 30), (2, 1))
        self.assertEqual(told, plain_trains_by_pitch((90, 45, 15, 30))[Fraction(2)])
        self.assertEqual(told[:2], [(30, 15), (90, 45)])

    def test_small_shops_against_a_walk_through_all_orders(self):
        for shop in SMALL_SHOPS:
            for pitch, wanted in plain_trains_by_pitch(shop).items():
                with self.subTest((shop, pitch)):
                    self.check_trains(shop, pair_of(pitch), wanted)

    def test_the_order_of_the_shop_does_not_count(self):
        wanted = plain_trains_by_pitch((20, 30, 40, 60))[Fraction(1, 2)]
        for shop in itertools.permutations((20, 30, 40, 60)):
            self.check_trains(shop, (1, 2), wanted)
            self.check_trains(list(shop), (1, 2), wanted)

    def test_a_pitch_not_in_least_terms(self):
        wanted = plain_trains_by_pitch(FIVE)[Fraction(2, 3)]
        for factor in (2, 7, 30, 10 ** 59):
            self.check_trains(FIVE, (2 * factor, 3 * factor), wanted)

    def test_a_pitch_that_no_train_gives(self):
        for shop in SMALL_SHOPS:
            for pitch in ((1, 1000), (1000, 1), (9973, 9967), (1, GREAT), (GREAT, 1), (GREAT - 1, GREAT)):
                self.check_trains(shop, pitch, [])
        # Of a pitch very near to a train's one just nothing is told.
        self.check_trains([20, 40], (GREAT // 2 - 1, GREAT), [])
        self.check_trains([20, 40], (GREAT // 2, GREAT), [(20, 40)])

    def test_a_wheel_is_not_used_twice(self):
        # These would need a wheel at two places of the train.
        self.check_trains([10, 20], (1, 4), [])
        self.check_trains([10, 20, 30], (1, 1), [])
        self.check_trains([20, 30, 40], (9, 8), [])
        self.check_trains([20, 30, 40, 50], (9, 8), [])
        self.check_trains([20, 30, 40, 50], (1, 1), [])

    def test_shops_of_two_and_three_wheels(self):
        self.check_trains([127, 10], (10, 127), [(10, 127)])
        self.check_trains((127, 10), (127, 10), [(127, 10)])
        self.check_trains((10, 127), (1, 1), [])
        self.check_trains([40, 20, 10], (1, 2), [(10, 20), (20, 40)])
        self.check_trains((40, 20, 10), (2, 1), [(20, 10), (40, 20)])

    def test_a_shop_of_twelve_wheels(self):
        by_pitch = plain_trains_by_pitch(TWELVE)
        asked = sorted(by_pitch)
        for pitch in asked[:: len(asked) // 12] + [Fraction(1), Fraction(1, 2), Fraction(5, 4)]:
            self.check_trains(list(TWELVE), pair_of(pitch), by_pitch[pitch])
            self.check_trains(TWELVE, pair_of(pitch), by_pitch[pitch])

    def test_the_shop_stays_as_it_was(self):
        shop = list(FIVE)
        told = trains_for(shop, (2, 3))
        self.assertEqual(shop, list(FIVE))
        before = list(told)
        shop.clear()
        self.assertEqual(told, before)

    def test_what_is_done_to_a_list_told_changes_no_later_answer(self):
        shop = list(FIVE)
        told = trains_for(shop, (2, 3))
        wanted = list(told)
        told.reverse()
        told.append((1, 2))
        told[0] = None
        self.assertEqual(trains_for(shop, (2, 3)), wanted)
        none_told = trains_for(shop, (1, 1000))
        none_told.append((1, 2))
        self.assertEqual(trains_for(shop, (1, 1000)), [])
        self.assertEqual(choose_train(shop, (2, 3)), ((2, 3), (20, 30)))


class ChooseTrainTest(unittest.TestCase):
    def check_choice(self, shop, asked, pitch, train):
        told = choose_train(shop, asked)
        self.assertIs(type(told), tuple)
        self.assertEqual(len(told), 2)
        same_fraction(self, told[0], pitch)
        self.assertIs(type(told[1]), tuple)
        self.assertTrue(all(is_whole(wheel) for wheel in told[1]))
        self.assertEqual(told[1], train)

    def test_a_pitch_that_two_wheels_give(self):
        self.check_choice([50, 40, 30, 20], (2, 3), Fraction(2, 3), (20, 30))
        # Four wheels of lesser teeth give 1/2 too, but two are enough.
        self.check_choice((10, 15, 30, 40, 80), (1, 2), Fraction(1, 2), (15, 30))

    def test_a_pitch_that_only_four_wheels_give(self):
        self.check_choice([50, 40, 30, 20], (8, 15), Fraction(8, 15), (20, 30, 40, 50))
        self.check_choice((20, 40, 60, 30), (1, 1), Fraction(1), (20, 30, 60, 40))

    def test_a_pitch_that_none_gives(self):
        self.check_choice([20, 40], (3, 4), Fraction(1, 2), (20, 40))
        self.check_choice([20, 40], (3, 2), Fraction(2), (40, 20))
        self.check_choice((20, 30, 40), (1, 1), Fraction(3, 4), (30, 40))

    def test_the_less_of_two_pitches_equally_near(self):
        self.check_choice([10, 20], (5, 4), Fraction(1, 2), (10, 20))
        self.check_choice([20, 10], (5, 4), Fraction(1, 2), (10, 20))
        # A little to either side one of the two is nearer.
        self.check_choice([10, 20], (5 * GREAT // 40 + 1, GREAT // 10), Fraction(2), (20, 10))
        self.check_choice([10, 20], (5 * GREAT // 40 - 1, GREAT // 10), Fraction(1, 2), (10, 20))

    def test_every_pitch_of_small_shops(self):
        for shop in SMALL_SHOPS:
            for pitch, trains in plain_trains_by_pitch(shop).items():
                with self.subTest((shop, pitch)):
                    self.check_choice(shop, pair_of(pitch), pitch, trains[0])

    def test_in_the_middle_of_every_two_neighbours_and_just_beside_it(self):
        little = Fraction(1, 10 ** 45)
        for shop in SMALL_SHOPS:
            by_pitch = plain_trains_by_pitch(shop)
            pitches = sorted(by_pitch)
            for less, more in zip(pitches, pitches[1:]):
                middle = (less + more) / 2
                with self.subTest((shop, middle)):
                    self.check_choice(shop, pair_of(middle), less, by_pitch[less][0])
                    self.check_choice(shop, pair_of(middle - little), less, by_pitch[less][0])
                    self.check_choice(shop, pair_of(middle + little), more, by_pitch[more][0])

    def test_pitches_far_below_and_far_above_all(self):
        for shop in SMALL_SHOPS + (TWELVE,):
            by_pitch = plain_trains_by_pitch(shop)
            least, greatest = min(by_pitch), max(by_pitch)
            with self.subTest(shop):
                self.check_choice(shop, (1, GREAT), least, by_pitch[least][0])
                self.check_choice(shop, (GREAT, 1), greatest, by_pitch[greatest][0])
                self.check_choice(shop, (GREAT - 1, 1), greatest, by_pitch[greatest][0])

    def test_a_pitch_not_in_least_terms(self):
        self.check_choice(FIVE, (4, 6), Fraction(2, 3), (20, 30))
        self.check_choice([10, 20], (50, 40), Fraction(1, 2), (10, 20))
        self.check_choice([10, 20], (GREAT, GREAT), Fraction(1, 2), (10, 20))

    def test_a_shop_of_twelve_wheels(self):
        by_pitch = plain_trains_by_pitch(TWELVE)
        pitches = sorted(by_pitch)
        for less, more in list(zip(pitches, pitches[1:]))[:: len(pitches) // 8]:
            middle = (less + more) / 2
            self.check_choice(list(TWELVE), pair_of(less), less, by_pitch[less][0])
            self.check_choice(TWELVE, pair_of(middle), less, by_pitch[less][0])

    def test_it_agrees_with_trains_for(self):
        for shop in (FIVE, PRIMES):
            for asked in ((1, 1), (355, 113), (7, 22), (2, 3), (99, 100), (1, 7)):
                pitch, train = choose_train(shop, asked)
                self.assertEqual(train, trains_for(shop, pitch)[0])
                self.assertEqual(ratio_of(train), pitch)
                nearest = min(abs(as_fraction(asked) - given) for given in plain_trains_by_pitch(shop))
                self.assertEqual(abs(as_fraction(asked) - as_fraction(pitch)), nearest)

    def test_the_shop_stays_as_it_was(self):
        shop = list(FIVE)
        choose_train(shop, (355, 113))
        self.assertEqual(shop, list(FIVE))


if __name__ == "__main__":
    unittest.main()
