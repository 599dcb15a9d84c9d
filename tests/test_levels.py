import copy
import random
import unittest

from tests.plain import by_levels
from tests.samples import some_works
from warmshare.levels import given_at, lack_above, wanted_at
from warmshare.works import read

ORDINARY = (10, [(150, 60, 2), (90, 60, 8)], [(20, 125, 3), (25, 100, 4)])
# The least and the greatest levels there are.
EDGES = (50, [(200, 0, 10 ** 9), (1, 0, 1), (200, 199, 1)], [(0, 200, 10 ** 9), (0, 1, 1), (199, 200, 1)])


def samples():
    source = random.Random(8)
    fixed = [ORDINARY, EDGES, (0, [], []), (50, [(200, 0, 10 ** 9)] * 12, [(0, 200, 10 ** 9)] * 12)]
    return fixed + [some_works(source) for _ in range(30)]


class Steps(unittest.TestCase):
    def test_a_hot_streams_steps_are_at_their_degrees(self):
        for gap in (0, 7, 50):
            works = (gap, [(60, 40, 3)], [])
            self.assertEqual([given_at(works, level) for level in (39, 40, 41, 59, 60, 61)], [0, 3, 3, 3, 0, 0])
            self.assertEqual([wanted_at(works, level) for level in (39, 40, 59, 60)], [0, 0, 0, 0])

    def test_a_cold_streams_steps_are_a_gap_above_their_degrees(self):
        for gap in (0, 7, 50):
            works = (gap, [], [(40, 60, 3)])
            found = [wanted_at(works, gap + degree) for degree in (39, 40, 41, 59, 60, 61)]
            self.assertEqual(found, [0, 3, 3, 3, 0, 0])
            self.assertEqual([given_at(works, gap + degree) for degree in (39, 40, 59, 60)], [0, 0, 0, 0])

    def test_a_stream_of_one_step(self):
        works = (5, [(60, 59, 3)], [(40, 41, 4)])
        self.assertEqual([level for level in range(250) if given_at(works, level) != 0], [59])
        self.assertEqual([level for level in range(250) if wanted_at(works, level) != 0], [45])

    def test_the_first_and_the_last_levels(self):
        self.assertEqual([given_at(EDGES, level) for level in (0, 1, 198, 199, 200, 249)],
                         [10 ** 9 + 1, 10 ** 9, 10 ** 9, 10 ** 9 + 1, 0, 0])
        self.assertEqual([wanted_at(EDGES, level) for level in (0, 49, 50, 51, 248, 249)],
                         [0, 0, 10 ** 9 + 1, 10 ** 9, 10 ** 9, 10 ** 9 + 1])


class GivenAndWanted(unittest.TestCase):
    def test_rates_are_added_up(self):
        self.assertEqual([given_at(ORDINARY, level) for level in (59, 60, 89, 90, 149, 150)], [0, 10, 10, 2, 2, 0])
        self.assertEqual([wanted_at(ORDINARY, level) for level in (29, 30, 34, 35, 109, 110, 134, 135)],
                         [0, 3, 3, 7, 7, 3, 3, 0])

    def test_at_all_levels(self):
        for works in samples():
            given, wanted = by_levels(works)
            self.assertEqual([given_at(works, level) for level in range(250)], given[:250])
            self.assertEqual([wanted_at(works, level) for level in range(250)], wanted[:250])

    def test_none_at_all(self):
        works = (10, [], [])
        for level in (0, 100, 249):
            self.assertEqual((given_at(works, level), wanted_at(works, level)), (0, 0))

    def test_whole_numbers_are_told(self):
        for works in (ORDINARY, (10, [], [])):
            for level in (0, 60, 249):
                self.assertIs(type(given_at(works, level)), int)
                self.assertIs(type(wanted_at(works, level)), int)
                self.assertIs(type(lack_above(works, level)), int)


class Lack(unittest.TestCase):
    def test_an_ordinary_works(self):
        self.assertEqual([lack_above(ORDINARY, level) for level in (250, 150, 149, 135, 134, 110, 90, 60, 0)],
                         [0, 0, -2, -30, -29, -5, 95, 5, 195])

    def test_the_level_itself_counts(self):
        hot = (0, [(60, 40, 3)], [])
        cold = (10, [], [(30, 50, 3)])
        for level, heat in ((0, 60), (39, 60), (40, 60), (41, 57), (58, 6), (59, 3), (60, 0), (250, 0)):
            self.assertEqual(lack_above(hot, level), -heat)
            self.assertEqual(lack_above(cold, level), heat)

    def test_it_may_be_below_nought(self):
        self.assertEqual(lack_above((0, [(200, 0, 10 ** 9)] * 12, []), 0), -200 * 12 * 10 ** 9)
        self.assertEqual(lack_above((50, [], [(0, 200, 10 ** 9)] * 12), 0), 200 * 12 * 10 ** 9)

    def test_the_first_and_the_last_levels(self):
        self.assertEqual([lack_above(EDGES, level) for level in (250, 249, 248, 200, 199)],
                         [0, 10 ** 9 + 1, 2 * 10 ** 9 + 1, 50 * 10 ** 9 + 1, 50 * 10 ** 9])
        self.assertEqual([lack_above(EDGES, level) for level in (51, 50, 49, 1, 0)],
                         [50 * 10 ** 9, 50 * 10 ** 9 + 1, 49 * 10 ** 9 + 1, 10 ** 9 + 1, 0])

    def test_above_all_levels(self):
        for works in samples():
            given, wanted = by_levels(works)
            for level in range(251):
                self.assertEqual(lack_above(works, level), sum(wanted[level:]) - sum(given[level:]))


class Point2(unittest.TestCase):
    def test_works_that_are_handed_in_stay_as_they_are(self):
        for works in samples():
            before = copy.deepcopy(works)
            for asked in (given_at, wanted_at, lack_above):
                for level in (0, 60, 249):
                    first = asked(works, level)
                    self.assertEqual(works, before)
                    self.assertEqual(asked(works, level), first)

    def test_works_that_are_changed_are_asked_anew(self):
        works = read("gap 10\nhot 60 40 3\ncold 30 50 4")
        self.assertEqual((given_at(works, 45), wanted_at(works, 45), lack_above(works, 40)), (3, 4, 20))
        works[1].append((46, 45, 5))
        works[2].clear()
        self.assertEqual((given_at(works, 45), wanted_at(works, 45), lack_above(works, 40)), (8, 0, -65))

    def test_what_lies_somewhat_beyond_the_bounds_is_answered_all_the_same(self):
        works = (60, [(201, 0, 10 ** 10)] * 13, [(0, 201, 2)])
        self.assertEqual((given_at(works, 200), given_at(works, 201), given_at(works, -1)), (13 * 10 ** 10, 0, 0))
        self.assertEqual((wanted_at(works, 260), wanted_at(works, 261), wanted_at(works, 59)), (2, 0, 0))
        self.assertEqual((lack_above(works, 251), lack_above(works, 261)), (20, 0))


if __name__ == "__main__":
    unittest.main()
