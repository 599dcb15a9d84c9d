import copy
import itertools
import random
import unittest

from tests.plain import broken_rules, can_pass, does, is_short, surpluses
from tests.samples import small_shop, small_works, some_shop, some_works, without_low_ones
from warmshare.least import least_cold, least_heat
from warmshare.shops import cheapest, price_of, will_do

# At a gap of 10: 20 bits are wanted at the levels 60 and 61, 12 given at the levels 30 to 32.
WORKS = (10, [(33, 30, 4)], [(50, 52, 10)])
SHOP = ([(62, 5, 10), (90, 8, 100)], [(20, 3, 7), (5, 6, 100)])


def small_samples(source, times):
    for number in range(times):
        works = small_works(source)
        yield (works if number % 4 == 0 else without_low_ones(works), small_shop(source))


def all_buyings(shop):
    offers = shop[0] + shop[1]
    for amounts in itertools.product(*[range(most + 1) for _, _, most in offers]):
        yield (list(amounts[:len(shop[0])]), list(amounts[len(shop[0]):]))


class Point13And14(unittest.TestCase):
    def assert_does(self, expected, works, shop, buying):
        self.assertIs(will_do(works, shop, buying), expected, (works, shop, buying))

    def test_an_ordinary_buying(self):
        self.assert_does(True, WORKS, SHOP, ([10, 10], [7, 5]))
        self.assert_does(True, WORKS, SHOP, ([0, 20], [0, 12]))
        self.assert_does(True, WORKS, SHOP, ([10, 11], [7, 6]))
        self.assert_does(False, WORKS, SHOP, ([10, 9], [7, 4]))
        self.assert_does(False, WORKS, SHOP, ([10, 10], [7, 4]))
        self.assert_does(False, WORKS, SHOP, ([10, 10], [7, 6]))
        self.assert_does(False, WORKS, SHOP, ([0, 0], [0, 0]))

    def test_a_fires_degree(self):
        # The cold step from 50 to 51 at a gap of 10 is reached by a fire of 61 degrees just so.
        works = (10, [], [(50, 51, 3)])
        for degree, expected in ((60, False), (61, True), (62, True), (250, True), (1, False)):
            self.assert_does(expected, works, ([(degree, 1, 9)], []), ([3], []))
        self.assert_does(True, (0, [], [(0, 1, 3)]), ([(1, 1, 9)], []), ([3], []))
        self.assert_does(False, (1, [], [(0, 1, 3)]), ([(1, 1, 9)], []), ([3], []))
        self.assert_does(True, (50, [], [(199, 200, 3)]), ([(250, 1, 9)], []), ([3], []))
        self.assert_does(False, (50, [], [(199, 200, 3)]), ([(249, 1, 9)], []), ([3], []))

    def test_a_waters_degree(self):
        # The hot step at 60 at a gap of 10 is reached by a water of 50 degrees just so.
        works = (10, [(61, 60, 3)], [])
        for degree, expected in ((51, False), (50, True), (49, True), (0, True), (199, False)):
            self.assert_does(expected, works, ([], [(degree, 1, 9)]), ([], [3]))
        self.assert_does(True, (0, [(1, 0, 3)], []), ([], [(0, 1, 9)]), ([], [3]))
        self.assert_does(False, (1, [(1, 0, 3)], []), ([], [(0, 1, 9)]), ([], [3]))
        self.assert_does(True, (0, [(200, 199, 3)], []), ([], [(199, 1, 9)]), ([], [3]))
        self.assert_does(False, (1, [(200, 199, 3)], []), ([], [(199, 1, 9)]), ([], [3]))

    def test_from_fires_to_waters(self):
        for gap, degree, water, expected in ((0, 1, 0, True), (1, 1, 0, False), (10, 61, 50, True),
                                             (10, 60, 50, False), (50, 250, 199, True), (50, 249, 199, False)):
            self.assert_does(expected, (gap, [], []), ([(degree, 1, 9)], [(water, 1, 9)]), ([4], [4]))
        self.assert_does(False, (0, [], []), ([(1, 1, 9)], [(0, 1, 9)]), ([4], [3]))

    def test_shops_without_fires_without_waters_without_both(self):
        self.assert_does(True, (5, [], []), ([], []), ([], []))
        self.assert_does(True, (10, [(60, 50, 4)], [(40, 50, 4)]), ([], []), ([], []))
        self.assert_does(False, (10, [(60, 50, 4)], [(40, 50, 5)]), ([], []), ([], []))
        self.assert_does(True, (10, [(60, 50, 4)], [(40, 50, 3)]), ([], [(40, 1, 10)]), ([], [10]))
        self.assert_does(True, (10, [(60, 50, 4)], [(40, 50, 5)]), ([(60, 1, 10)], []), ([10], []))

    def test_against_passes_of_heat(self):
        source = random.Random(14)
        found = []
        for works, shop in small_samples(source, 100):
            buyings = list(all_buyings(shop))
            # Half of them at least are alike over all levels, if there are such.
            even = [buying for buying in buyings if surpluses(works, shop, buying)[0] == 0]
            for buying in source.sample(buyings, min(6, len(buyings))) + source.sample(even, min(6, len(even))):
                found.append(can_pass(works, shop, buying))
                self.assert_does(found[-1], works, shop, buying)
        self.assertGreater(found.count(True), 50)
        self.assertGreater(found.count(False), 50)

    def test_the_price(self):
        self.assertEqual(price_of(SHOP, ([10, 10], [7, 5])), 50 + 80 + 21 + 30)
        self.assertEqual(price_of(SHOP, ([0, 0], [0, 0])), 0)
        self.assertEqual(price_of(SHOP, ([1, 0], [0, 0])), 5)
        self.assertEqual(price_of(SHOP, ([0, 0], [0, 1])), 6)
        self.assertEqual(price_of(([], []), ([], [])), 0)
        dear = ([(1, 1000000, 10 ** 15)] * 6, [(0, 1000000, 10 ** 15), (0, 0, 10 ** 15)])
        self.assertEqual(price_of(dear, ([10 ** 15] * 6, [10 ** 15] * 2)), 7 * 10 ** 21)
        self.assertIs(type(price_of(([], []), ([], []))), int)


class Told(unittest.TestCase):
    # What is told as bought is looked through by the rules of point 15, which show that nothing is cheaper.
    def check(self, works, shop):
        told = cheapest(works, shop)
        self.assertIs(type(told), tuple)
        if told[0] == "short":
            self.assertEqual(len(told), 3)
            self.assertIs(type(told[2]), int)
            self.assertIn(told[2], range(251))
            self.assertTrue(is_short(works, shop, told[1], told[2]), (works, shop, told))
            return None
        self.assertEqual((told[0], len(told)), ("bought", 4))
        buying, price, worths = told[1:]
        self.assertEqual([type(part) for part in (buying, price, worths)], [tuple, int, list])
        self.assertEqual([type(part) for part in buying], [list, list])
        self.assertEqual([len(part) for part in buying], [len(offers) for offers in shop])
        for offer, amount in zip(shop[0] + shop[1], buying[0] + buying[1]):
            self.assertIs(type(amount), int)
            self.assertTrue(0 <= amount <= offer[2])
        self.assertTrue(does(works, shop, buying), (works, shop, buying))
        self.assertTrue(will_do(works, shop, buying))
        self.assertEqual(price, sum(offer[1] * amount for offer, amount in
                                    zip(shop[0] + shop[1], buying[0] + buying[1])))
        self.assertEqual(price, price_of(shop, buying))
        self.assertEqual(broken_rules(works, shop, buying, worths), [], (works, shop, told))
        return price

    def assert_bought(self, works, shop, buying, price):
        self.check(works, shop)
        self.assertEqual(cheapest(works, shop)[:3], ("bought", buying, price))


class Point15(Told):
    def test_an_ordinary_shop(self):
        self.assert_bought(WORKS, SHOP, ([10, 10], [7, 5]), 181)

    def test_the_cheap_fire_reaches_only_the_low_wants(self):
        works = (0, [], [(100, 101, 10), (20, 21, 10)])
        self.assert_bought(works, ([(21, 1, 100), (101, 9, 100)], []), ([10, 10], []), 100)
        self.assert_bought(works, ([(21, 9, 100), (101, 1, 100)], []), ([0, 20], []), 20)
        self.assert_bought(works, ([(21, 9, 100), (101, 1, 15)], []), ([5, 15], []), 60)

    def test_the_cheap_water_reaches_only_the_warm_steps(self):
        works = (0, [(101, 100, 10), (21, 20, 10)], [])
        self.assert_bought(works, ([], [(100, 1, 100), (20, 9, 100)]), ([], [10, 10]), 100)
        self.assert_bought(works, ([], [(100, 9, 100), (20, 1, 100)]), ([], [0, 20]), 20)
        self.assert_bought(works, ([], [(100, 9, 100), (20, 1, 15)]), ([], [5, 15]), 60)

    def test_given_heat_saves_the_dearer_one_of_both(self):
        # The hot steps' heat can go on to the cold steps or to the dear water; cold is short otherwise.
        works = (0, [(60, 59, 10)], [(50, 51, 10)])
        self.assert_bought(works, ([(200, 5, 100)], [(0, 5, 100)]), ([0], [0]), 0)
        works = (0, [(60, 59, 10), (40, 39, 5)], [(50, 51, 10), (55, 56, 7)])
        self.assert_bought(works, ([(200, 5, 100)], [(0, 2, 100)]), ([7], [5]), 45)

    def test_fires_may_have_to_feed_waters(self):
        works = (0, [(11, 10, 5)], [(100, 101, 5)])
        self.assert_bought(works, ([(101, 3, 5)], [(10, 4, 5)]), ([5], [5]), 35)

    def test_offers_with_a_most_of_nought(self):
        self.assert_bought((0, [], []), ([(1, 0, 0)] * 6, [(0, 0, 0)] * 6), ([0] * 6, [0] * 6), 0)
        self.assert_bought((0, [], [(0, 1, 2)]), ([(1, 0, 0), (1, 7, 2), (9, 0, 0)], [(0, 0, 0)]), ([0, 2, 0], [0]), 14)
        self.assert_bought((0, [(1, 0, 2)], []), ([(1, 0, 0)], [(0, 0, 0), (0, 7, 2)]), ([0], [0, 2]), 14)

    def test_just_the_most(self):
        self.assert_bought((0, [], [(0, 1, 9)]), ([(1, 2, 4), (1, 3, 5)], []), ([4, 5], []), 23)
        self.assert_bought((0, [(1, 0, 9)], []), ([], [(0, 2, 4), (0, 3, 5)]), ([], [4, 5]), 23)

    def test_prices_of_nought_and_the_greatest(self):
        self.assert_bought((0, [], [(0, 1, 9)]), ([(1, 1000000, 9), (1, 0, 4)], []), ([5, 4], []), 5000000)
        self.assert_bought((0, [(1, 0, 9)], []), ([], [(0, 1000000, 9), (0, 0, 4)]), ([], [5, 4]), 5000000)
        self.assertEqual(self.check((0, [(1, 0, 9)], [(0, 1, 3)]), ([(250, 0, 10 ** 15)], [(0, 0, 10 ** 15)])), 0)

    def test_the_first_and_the_last_degrees(self):
        self.assert_bought((0, [], [(0, 1, 3)]), ([(1, 2, 9)], []), ([3], []), 6)
        self.assert_bought((50, [], [(199, 200, 3)]), ([(249, 1, 9), (250, 2, 9)], []), ([0, 3], []), 6)
        self.assert_bought((0, [(1, 0, 3)], []), ([], [(1, 1, 9), (0, 2, 9)]), ([], [0, 3]), 6)
        self.assert_bought((0, [(200, 199, 3)], []), ([], [(199, 2, 9)]), ([], [3]), 6)

    def test_shops_without_fires_without_waters_without_both(self):
        self.assert_bought((5, [], []), ([], []), ([], []), 0)
        self.assert_bought((10, [(60, 50, 4)], [(40, 50, 4)]), ([], []), ([], []), 0)
        self.assert_bought((10, [(60, 50, 4)], [(40, 50, 3)]), ([], [(40, 2, 10)]), ([], [10]), 20)
        self.assert_bought((10, [(60, 50, 4)], [(40, 50, 5)]), ([(60, 2, 10)], []), ([10], []), 20)

    def test_one_fire_and_one_water_buy_the_least(self):
        source = random.Random(9)
        for _ in range(25):
            works = without_low_ones(some_works(source))
            shop = ([(250, 1, 10 ** 15)], [(0, 1, 10 ** 15)])
            heat, cold = least_heat(works), least_cold(works)
            self.assert_bought(works, shop, ([heat], [cold]), heat + cold)

    def test_against_a_plain_search(self):
        source = random.Random(15)
        bought = short = 0
        for works, shop in small_samples(source, 250):
            prices = [price_of(shop, buying) for buying in all_buyings(shop) if does(works, shop, buying)]
            self.assertEqual(self.check(works, shop), min(prices, default=None), (works, shop))
            bought += len(prices) > 0
            short += len(prices) == 0
        self.assertGreater(bought, 50)
        self.assertGreater(short, 50)

    def test_great_works_and_shops(self):
        source = random.Random(150)
        bought = 0
        for _ in range(120):
            works = without_low_ones(some_works(source))
            shop = some_shop(source, least_heat(works) + least_cold(works) + 1)
            bought += self.check(works, shop) is not None
        self.assertGreater(bought, 15)

    def test_twelve_streams_of_a_kind(self):
        works = (50, [(200, 50, 10 ** 9)] * 12, [(0, 200, 10 ** 9)] * 12)
        shop = ([(250, 1000000, 10 ** 15)] * 6, [(0, 1000000, 10 ** 15)] * 6)
        self.assertEqual(self.check(works, shop), 600 * 10 ** 15)


class Point16(Told):
    def assert_short(self, kind, works, shop):
        self.check(works, shop)
        self.assertEqual(cheapest(works, shop)[:2], ("short", kind))

    def test_short_of_heat(self):
        self.assert_short("heat", (0, [], [(0, 1, 1)]), ([], []))
        self.assert_short("heat", (0, [], [(0, 1, 9)]), ([(1, 2, 4), (1, 3, 4)], []))
        self.assert_short("heat", (0, [], [(50, 51, 9)]), ([(50, 2, 100)], []))
        self.assert_short("heat", (50, [], [(199, 200, 1)]), ([(249, 2, 100)], [(0, 2, 100)]))
        self.assert_short("heat", (0, [(50, 49, 9)], [(50, 51, 9)]), ([], [(0, 1, 9)]))

    def test_short_of_cold(self):
        self.assert_short("cold", (0, [(1, 0, 1)], []), ([], []))
        self.assert_short("cold", (0, [(1, 0, 9)], []), ([], [(0, 2, 4), (0, 3, 4)]))
        self.assert_short("cold", (0, [(51, 50, 9)], []), ([], [(51, 2, 100)]))
        self.assert_short("cold", (50, [(50, 49, 1)], []), ([(1, 2, 100)], [(0, 2, 100)]))
        self.assert_short("cold", (0, [(200, 199, 1)], []), ([(250, 2, 100)], []))

    def test_short_by_one_bit_and_not(self):
        self.assert_short("heat", (0, [], [(0, 1, 9)]), ([(1, 2, 8)], []))
        self.assertEqual(self.check((0, [], [(0, 1, 9)]), ([(1, 2, 9)], [])), 18)
        self.assert_short("cold", (0, [(1, 0, 9)], []), ([], [(0, 2, 8)]))
        self.assertEqual(self.check((0, [(1, 0, 9)], []), ([], [(0, 2, 9)])), 18)

    def test_short_of_both(self):
        works = (0, [(50, 49, 9)], [(50, 51, 9)])
        self.check(works, ([], []))
        self.assertEqual(cheapest(works, ([], []))[0], "short")

    def test_nothing_is_short_where_some_buying_will_do(self):
        source = random.Random(16)
        for works, shop in small_samples(source, 150):
            some = any(does(works, shop, buying) for buying in all_buyings(shop))
            levels = [(kind, level) for kind in ("heat", "cold") for level in range(251)
                      if is_short(works, shop, kind, level)]
            told = cheapest(works, shop)
            self.assertEqual(told[0], "bought" if some else "short")
            self.assertEqual(levels == [], some)
            if not some:
                self.assertIn(told[1:], levels)


class Point2(unittest.TestCase):
    def test_what_is_handed_in_stays_as_it_is_and_is_answered_the_same(self):
        source = random.Random(2)
        for works, shop in small_samples(source, 60):
            buying = source.choice(list(all_buyings(shop)))
            before = copy.deepcopy((works, shop, buying))
            first = (will_do(works, shop, buying), price_of(shop, buying), cheapest(works, shop))
            self.assertEqual((works, shop, buying), before)
            self.assertEqual((will_do(works, shop, buying), price_of(shop, buying), cheapest(works, shop)), first)
            self.assertEqual((works, shop, buying), before)

    def test_each_told_list_is_the_askers_own(self):
        for works, shop in (((0, [], []), ([], [])), (WORKS, SHOP)):
            first = cheapest(works, shop)
            kept = copy.deepcopy(first)
            second = cheapest(works, shop)
            lists = [first[1][0], first[1][1], first[3], second[1][0], second[1][1], second[3], shop[0], shop[1]]
            self.assertEqual(len({id(one) for one in lists}), 8)
            for one in (first[1][0], first[1][1], first[3]):
                one.append(7)
            self.assertEqual(second, kept)
            self.assertEqual(cheapest(works, shop), kept)

    def test_what_lies_somewhat_beyond_the_bounds_is_answered_all_the_same(self):
        works = (51, [(201, 51, 10 ** 10)] * 13, [(0, 201, 2)] * 13)
        shop = ([(251, 1000001, 10 ** 16)] * 7, [(0, 1000001, 10 ** 16)] * 7)
        told = cheapest(works, shop)
        self.assertEqual((told[0], len(told[3])), ("bought", 250))
        self.assertTrue(will_do(works, shop, told[1]))


if __name__ == "__main__":
    unittest.main()
