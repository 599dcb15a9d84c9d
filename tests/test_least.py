import copy
import random
import unittest

from tests.plain import by_levels, cold_steps, hot_steps, most_passed
from tests.samples import small_works, some_works
from warmshare.least import least_cold, least_heat, pinch

ORDINARY = (10, [(150, 60, 2), (90, 60, 8)], [(20, 125, 3), (25, 100, 3)])


def told(works):
    return (least_heat(works), least_cold(works), pinch(works))


# Point 9 by its words, from sums level by level.
def plainly(works):
    given, wanted = by_levels(works)
    lacks = [sum(wanted[level:]) - sum(given[level:]) for level in range(251)]
    heat = max(0, max(lacks))
    seen = [level for level in range(251) if lacks[level] == heat]
    return (heat, heat + sum(given) - sum(wanted), seen[-1] if heat > 0 else None)


class Point9(unittest.TestCase):
    def test_an_ordinary_works(self):
        self.assertEqual(told(ORDINARY), (120, 0, 30))
        self.assertEqual(told((10, [(100, 50, 3)], [(30, 80, 4)])), (50, 0, 40))
        self.assertEqual(told((10, [(150, 60, 2), (90, 60, 8)], [(60, 125, 3), (65, 100, 2)])), (55, 210, 90))

    def test_no_streams_at_all(self):
        for gap in (0, 50):
            self.assertEqual(told((gap, [], [])), (0, 0, None))

    def test_hot_ones_alone(self):
        self.assertEqual(told((20, [(100, 40, 7), (1, 0, 1)], [])), (0, 421, None))

    def test_cold_ones_alone(self):
        self.assertEqual(told((20, [], [(40, 100, 7), (0, 1, 1)])), (421, 0, 20))
        self.assertEqual(told((20, [], [(40, 100, 7)])), (420, 0, 60))

    def test_nothing_is_bought(self):
        self.assertEqual(told((0, [(60, 50, 4)], [(50, 60, 4)])), (0, 0, None))
        self.assertEqual(told((10, [(60, 50, 4)], [(40, 50, 4)])), (0, 0, None))
        self.assertEqual(told((10, [(60, 50, 4)], [(39, 49, 3)])), (0, 10, None))

    def test_the_gap_decides(self):
        self.assertEqual(told((11, [(60, 50, 4)], [(40, 50, 4)])), (4, 4, 60))
        self.assertEqual(told((50, [(60, 50, 4)], [(40, 50, 4)])), (40, 40, 90))

    def test_the_pinch_is_the_highest_of_several(self):
        # The lack is 10 above the levels 60 to 100, falls to 0 at 50, and is 10 again from 40 on.
        self.assertEqual(told((0, [(60, 50, 1)], [(100, 110, 1), (40, 50, 1)])), (10, 0, 100))
        self.assertEqual(told((0, [(60, 50, 1)], [(100, 110, 1), (39, 50, 1)])), (11, 0, 39))
        self.assertEqual(told((0, [(60, 50, 1)], [(100, 110, 1), (41, 50, 1)])), (10, 1, 100))
        self.assertEqual(pinch((0, [(60, 50, 1), (40, 30, 1)], [(100, 110, 1), (40, 50, 1), (20, 30, 1)])), 100)

    def test_the_first_and_the_last_levels(self):
        self.assertEqual(told((0, [], [(0, 1, 1)])), (1, 0, 0))
        self.assertEqual(told((50, [], [(199, 200, 1)])), (1, 0, 249))
        self.assertEqual(told((50, [(200, 199, 1)], [(199, 200, 1)])), (1, 1, 249))
        self.assertEqual(told((0, [(200, 199, 1)], [(199, 200, 1)])), (0, 0, None))
        self.assertEqual(told((0, [(200, 199, 5)], [(0, 1, 6)])), (1, 0, 0))

    def test_the_greatest_rates_and_twelve_of_a_kind(self):
        hots, colds = [(200, 0, 10 ** 9)] * 12, [(0, 200, 10 ** 9)] * 12
        self.assertEqual(told((0, hots, colds)), (0, 0, None))
        self.assertEqual(told((50, hots, colds)), (600 * 10 ** 9, 600 * 10 ** 9, 200))
        self.assertEqual(told((50, hots, [])), (0, 2400 * 10 ** 9, None))
        self.assertEqual(told((50, [], colds)), (2400 * 10 ** 9, 0, 50))
        self.assertEqual(told((50, hots, [(0, 200, 1)] * 12)), (600, 2400 * 10 ** 9 - 1800, 200))

    def test_as_the_sums_say_it(self):
        source = random.Random(9)
        for works in [some_works(source) for _ in range(40)] + [small_works(source) for _ in range(150)]:
            self.assertEqual(told(works), plainly(works), works)

    def test_the_kinds_of_what_is_told(self):
        for works in (ORDINARY, (10, [], [])):
            self.assertIs(type(least_heat(works)), int)
            self.assertIs(type(least_cold(works)), int)
        self.assertIs(type(pinch(ORDINARY)), int)


class Point10(unittest.TestCase):
    def test_no_less_can_be_bought_and_no_more_must(self):
        source = random.Random(10)
        for _ in range(150):
            works = small_works(source)
            hots, colds = hot_steps(works), cold_steps(works)
            from_steps, to_steps = list(hots), list(colds)
            passed = most_passed(list(hots.values()), list(colds.values()),
                                 lambda k, j: from_steps[k][1] >= to_steps[j][1] + works[0])
            self.assertEqual(least_heat(works), sum(colds.values()) - passed, works)
            self.assertEqual(least_cold(works), sum(hots.values()) - passed, works)


class Point2(unittest.TestCase):
    def test_works_stay_as_they_are_and_are_answered_the_same(self):
        source = random.Random(2)
        for _ in range(20):
            works = some_works(source)
            before = copy.deepcopy(works)
            first = told(works)
            self.assertEqual(works, before)
            self.assertEqual(told(works), first)

    def test_works_that_are_changed_are_asked_anew(self):
        works = (10, [(100, 50, 3)], [(30, 80, 4)])
        self.assertEqual(told(works), (50, 0, 40))
        works[1].clear()
        self.assertEqual(told(works), (200, 0, 40))

    def test_what_lies_somewhat_beyond_the_bounds_is_answered_all_the_same(self):
        self.assertEqual(told((51, [(201, 0, 10 ** 10)] * 13, [])), (0, 201 * 13 * 10 ** 10, None))
        self.assertEqual(told((51, [], [(0, 201, 10 ** 10)] * 13)), (201 * 13 * 10 ** 10, 0, 51))


if __name__ == "__main__":
    unittest.main()
