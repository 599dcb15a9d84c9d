import copy
import random
import unittest

from tests.plain import bought_by, cold_steps, hot_steps
from tests.samples import small_works, some_works
from warmshare.least import least_cold, least_heat
from warmshare.sharing import looked_through, shared

ORDINARY = (10, [(150, 60, 2), (90, 60, 8)], [(20, 125, 3), (25, 100, 3)])
# Both hot steps, at 51 and 50, may give to the cold step at 40, that at 51 alone to the one at 41.
SMALL = (10, [(52, 50, 3)], [(40, 42, 5)])
SMALL_PASSES = [(-1, -1, 0, 40, 2), (-1, -1, 0, 41, 2), (0, 50, 0, 40, 3), (0, 51, 0, 41, 3)]
FULL = (50, [(200, 0, 10 ** 9)] * 12, [(0, 200, 10 ** 9)] * 12)


def edges():
    return [(0, [], []), (50, [(200, 0, 7)], []), (50, [], [(0, 200, 7)]), (0, [(1, 0, 1)], [(0, 1, 1)]),
            (50, [(200, 199, 10 ** 9)], [(199, 200, 1)]), (0, [(200, 0, 10 ** 9)] * 12, [(0, 200, 1)] * 12),
            (50, [(200, 0, 1)] * 12, [(0, 200, 10 ** 9)] * 12), ORDINARY, SMALL, FULL]


# A good sharing by chance: heat is given on or bought as it comes.
def by_chance(works, source):
    hots, colds = hot_steps(works), cold_steps(works)
    pairs = [(giver, taker) for giver in hots for taker in colds if giver[1] >= taker[1] + works[0]]
    source.shuffle(pairs)
    passes = []
    for giver, taker in pairs:
        heat = source.randint(0, min(hots[giver], colds[taker]))
        hots[giver] -= heat
        colds[taker] -= heat
        passes.append(giver + taker + (heat,))
    passes += [giver + (-1, -1, rate) for giver, rate in hots.items()]
    passes += [(-1, -1) + taker + (rate,) for taker, rate in colds.items()]
    source.shuffle(passes)
    return [one for one in passes if one[4] > 0]


class Shared(unittest.TestCase):
    def check(self, works):
        passes = shared(works)
        self.assertIs(type(passes), list)
        for one in passes:
            self.assertIs(type(one), tuple)
            self.assertEqual([type(number) for number in one], [int] * 5)
        least = (least_heat(works), least_cold(works))
        self.assertEqual(passes, sorted(passes))
        self.assertEqual(len({one[:4] for one in passes}), len(passes))
        self.assertLessEqual(len(passes), 10000)
        self.assertEqual(looked_through(works, passes), least)
        if len(passes) <= 1000:
            self.assertEqual(bought_by(works, passes), least, works)

    def test_an_ordinary_works(self):
        self.check(ORDINARY)
        self.assertEqual(shared(SMALL), SMALL_PASSES)

    def test_no_streams_hot_ones_alone_cold_ones_alone(self):
        self.assertEqual(shared((7, [], [])), [])
        self.assertEqual(shared((7, [(3, 1, 4)], [])), [(0, 1, -1, -1, 4), (0, 2, -1, -1, 4)])
        self.assertEqual(shared((7, [], [(1, 3, 4)])), [(-1, -1, 0, 1, 4), (-1, -1, 0, 2, 4)])

    def test_the_gap_is_kept_to_the_degree(self):
        self.assertEqual(shared((9, [(60, 59, 4)], [(50, 51, 4)])), [(0, 59, 0, 50, 4)])
        self.assertEqual(shared((10, [(60, 59, 4)], [(50, 51, 4)])), [(-1, -1, 0, 50, 4), (0, 59, -1, -1, 4)])
        self.assertEqual(shared((0, [(60, 59, 4)], [(59, 60, 4)])), [(0, 59, 0, 59, 4)])

    def test_edges(self):
        for works in edges():
            self.check(works)

    def test_the_warmest_heat_is_not_wasted(self):
        # The warm step alone can serve the warm want, whichever stream stands first.
        for hots in ([(90, 89, 5), (50, 49, 5)], [(50, 49, 5), (90, 89, 5)]):
            for colds in ([(20, 21, 5), (70, 71, 5)], [(70, 71, 5), (20, 21, 5)]):
                self.assertEqual(looked_through((10, hots, colds), shared((10, hots, colds))), (0, 0))

    def test_samples(self):
        source = random.Random(12)
        for works in [some_works(source) for _ in range(30)] + [small_works(source) for _ in range(200)]:
            self.check(works)


class LookedThrough(unittest.TestCase):
    def assert_not_good(self, works, passes):
        self.assertIsNone(looked_through(works, passes), passes)

    # The passes of SMALL with one of them changed, or with one more.
    def changed(self, place, one):
        return SMALL_PASSES[:place] + [one] + SMALL_PASSES[place + 1:]

    def test_a_good_one_in_any_order(self):
        source = random.Random(11)
        passes = list(SMALL_PASSES)
        for _ in range(20):
            source.shuffle(passes)
            found = looked_through(SMALL, passes)
            self.assertEqual(found, (4, 0))
            self.assertIs(type(found), tuple)
            self.assertEqual([type(number) for number in found], [int, int])

    def test_a_good_one_may_buy_more_than_the_least(self):
        dear = [(-1, -1, 0, 40, 5), (-1, -1, 0, 41, 5), (0, 50, -1, -1, 3), (0, 51, -1, -1, 3)]
        self.assertEqual(looked_through(SMALL, dear), (10, 6))
        mixed = [(-1, -1, 0, 40, 2), (-1, -1, 0, 41, 3), (0, 50, 0, 40, 2), (0, 50, -1, -1, 1),
                 (0, 51, 0, 40, 1), (0, 51, 0, 41, 2)]
        self.assertEqual(looked_through(SMALL, mixed), (5, 1))

    def test_the_empty_list(self):
        self.assertEqual(looked_through((7, [], []), []), (0, 0))
        self.assert_not_good((7, [(3, 1, 4)], []), [])
        self.assert_not_good((7, [], [(1, 3, 4)]), [])
        self.assert_not_good(SMALL, [])

    def test_a_stream_that_there_is_not(self):
        for number in (1, 2, -2, 12, 10 ** 29, -10 ** 29):
            self.assert_not_good(SMALL, self.changed(2, (number, 50, 0, 40, 3)))
            self.assert_not_good(SMALL, self.changed(2, (0, 50, number, 40, 3)))
            self.assert_not_good(SMALL, SMALL_PASSES + [(number, 50, -1, -1, 1)])
            self.assert_not_good(SMALL, SMALL_PASSES + [(-1, -1, number, 40, 1)])
        self.assert_not_good((7, [], []), [(0, 0, -1, -1, 1)])
        self.assert_not_good((7, [], []), [(-1, -1, 0, 0, 1)])

    def test_a_step_that_there_is_not(self):
        for at in (49, 52, 53, -1, 200, 10 ** 29, -10 ** 29):
            self.assert_not_good(SMALL, self.changed(2, (0, at, 0, 40, 3)))
            self.assert_not_good(SMALL, SMALL_PASSES + [(0, at, -1, -1, 1)])
        for into in (39, 42, 43, -1, 200, 10 ** 29, -10 ** 29):
            self.assert_not_good(SMALL, self.changed(0, (-1, -1, 0, into, 2)))
            self.assert_not_good(SMALL, SMALL_PASSES + [(-1, -1, 0, into, 1)])

    def test_half_a_word_for_bought(self):
        for at in (0, 1, 40, 50, 51, -2):
            self.assert_not_good(SMALL, self.changed(0, (-1, at, 0, 40, 2)))
            self.assert_not_good(SMALL, SMALL_PASSES + [(0, 50, -1, at, 1)])
            self.assert_not_good((7, [], []), [(-1, at, -1, -1, 1)])
            self.assert_not_good((7, [], []), [(-1, -1, -1, at, 1)])
        dear = [(-1, -1, 0, 40, 5), (-1, -1, 0, 41, 5), (0, 50, -1, -1, 3), (0, 51, -1, -1, 3)]
        self.assertEqual(looked_through(SMALL, dear), (10, 6))
        self.assert_not_good(SMALL, dear[:2] + [(0, 50, -1, 0, 3)] + dear[3:])
        self.assert_not_good(SMALL, dear[:2] + [(0, 50, -2, -2, 3)] + dear[3:])
        self.assert_not_good(SMALL, [(-2, -2, 0, 40, 5)] + dear[1:])

    def test_heat_below_one(self):
        for heat in (0, -1, -10 ** 29):
            self.assert_not_good(SMALL, SMALL_PASSES + [(0, 51, 0, 40, heat)])
            self.assert_not_good(SMALL, SMALL_PASSES + [(0, 51, -1, -1, heat)])
            self.assert_not_good((7, [], []), [(-1, -1, -1, -1, heat)])
        # The sums would be right here.
        self.assert_not_good(SMALL, [(-1, -1, 0, 40, 3), (-1, -1, 0, 41, 2), (0, 50, 0, 40, 3), (0, 51, 0, 41, 3),
                                     (0, 51, 0, 40, -1), (0, 51, -1, -1, 1)])

    def test_a_pass_to_a_step_that_is_too_warm(self):
        self.assertEqual(looked_through((9, [(60, 59, 4)], [(50, 51, 4)]), [(0, 59, 0, 50, 4)]), (0, 0))
        self.assert_not_good((10, [(60, 59, 4)], [(50, 51, 4)]), [(0, 59, 0, 50, 4)])
        self.assertEqual(looked_through((0, [(60, 59, 4)], [(59, 60, 4)]), [(0, 59, 0, 59, 4)]), (0, 0))
        self.assert_not_good((0, [(60, 59, 4)], [(60, 61, 4)]), [(0, 59, 0, 60, 4)])
        self.assert_not_good(SMALL, [(-1, -1, 0, 40, 2), (-1, -1, 0, 41, 2), (0, 50, 0, 41, 3), (0, 51, 0, 40, 3)])

    def test_bought_heat_and_bought_cold_reach_any_step(self):
        works = (50, [(1, 0, 2)], [(199, 200, 3)])
        self.assertEqual(looked_through(works, [(0, 0, -1, -1, 2), (-1, -1, 0, 199, 3)]), (3, 2))

    def test_from_bought_heat_to_bought_cold(self):
        self.assert_not_good(SMALL, SMALL_PASSES + [(-1, -1, -1, -1, 1)])
        self.assert_not_good((7, [], []), [(-1, -1, -1, -1, 1)])

    def test_the_same_ends_twice(self):
        self.assert_not_good(SMALL, self.changed(2, (0, 50, 0, 40, 1)) + [(0, 50, 0, 40, 2)])
        self.assert_not_good(SMALL, self.changed(0, (-1, -1, 0, 40, 1)) + [(-1, -1, 0, 40, 1)])
        hot = (0, [(1, 0, 2)], [])
        self.assertEqual(looked_through(hot, [(0, 0, -1, -1, 2)]), (0, 2))
        self.assert_not_good(hot, [(0, 0, -1, -1, 1), (0, 0, -1, -1, 1)])

    def test_more_or_less_than_the_rate(self):
        for place in range(4):
            one = SMALL_PASSES[place]
            for heat in (one[4] - 1, one[4] + 1):
                self.assert_not_good(SMALL, self.changed(place, one[:4] + (heat,)))
            self.assert_not_good(SMALL, SMALL_PASSES[:place] + SMALL_PASSES[place + 1:])
        hot, cold = (0, [(1, 0, 2)], []), (0, [], [(0, 1, 2)])
        for heat in (1, 3, 10 ** 29):
            self.assert_not_good(hot, [(0, 0, -1, -1, heat)])
            self.assert_not_good(cold, [(-1, -1, 0, 0, heat)])

    def test_right_in_all_but_not_at_each_step(self):
        works = (0, [(2, 0, 2)], [])
        self.assertEqual(looked_through(works, [(0, 0, -1, -1, 2), (0, 1, -1, -1, 2)]), (0, 4))
        self.assert_not_good(works, [(0, 0, -1, -1, 1), (0, 1, -1, -1, 3)])

    def test_ten_thousand_passes(self):
        # Fifty steps to give and two hundred to get, each giving a bit to each.
        works = (50, [(200, 150, 200)], [(0, 100, 50)] * 2)
        passes = [(0, at, taker, into, 1) for at in range(150, 200) for taker in range(2) for into in range(100)]
        self.assertEqual(len(passes), 10000)
        self.assertEqual(looked_through(works, passes), (0, 0))
        self.assert_not_good(works, passes[1:] + [passes[1]])
        self.assert_not_good(works, passes[1:] + [passes[0][:4] + (2,)])

    def test_by_chance_and_with_one_number_changed(self):
        source = random.Random(13)
        good = 0
        for _ in range(400):
            works = small_works(source)
            passes = by_chance(works, source)
            found = looked_through(works, passes)
            self.assertEqual(found, bought_by(works, passes))
            self.assertIsNotNone(found)
            if passes:
                place = source.randrange(len(passes))
                numbers = list(passes[place])
                numbers[source.randrange(5)] += source.choice((-2, -1, 1, 2))
                passes[place] = tuple(numbers)
                expected = bought_by(works, passes)
                self.assertEqual(looked_through(works, passes), expected, (works, passes))
                good += expected is not None
        self.assertLess(good, 40)


class Point3(unittest.TestCase):
    def test_no_sharing_buys_less_than_the_least(self):
        source = random.Random(3)
        for _ in range(300):
            works = small_works(source)
            heat, cold = looked_through(works, by_chance(works, source))
            self.assertGreaterEqual(heat, least_heat(works))
            self.assertGreaterEqual(cold, least_cold(works))
            self.assertEqual(heat - cold, least_heat(works) - least_cold(works))


class Point2(unittest.TestCase):
    def test_what_is_handed_in_stays_as_it_is_and_is_answered_the_same(self):
        source = random.Random(2)
        for works in [small_works(source) for _ in range(50)] + edges()[:-3]:
            before = copy.deepcopy(works)
            first = shared(works)
            kept = list(first)
            self.assertEqual(works, before)
            second = shared(works)
            self.assertEqual(second, kept)
            self.assertIsNot(second, first)
            source.shuffle(first)
            shuffled = list(first)
            told = looked_through(works, first)
            self.assertEqual((works, first), (before, shuffled))
            self.assertEqual(looked_through(works, first), told)

    def test_a_told_list_is_the_askers_own(self):
        for works in (SMALL, (7, [], [])):
            first = shared(works)
            kept = list(first)
            first.append((9, 9, 9, 9, 9))
            self.assertEqual(shared(works), kept)

    def test_what_lies_somewhat_beyond_the_bounds_is_answered_all_the_same(self):
        works = (51, [(201, 0, 10 ** 10)] * 13, [(0, 201, 1), (3, 5, 0)] * 7)
        passes = shared(works)
        self.assertEqual(looked_through(works, passes), (least_heat(works), least_cold(works)))


if __name__ == "__main__":
    unittest.main()
