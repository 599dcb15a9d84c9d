import copy
import random
import unittest

from tests.samples import some_works
from warmshare.errors import Full, HeatError, NoMeasure, NoStream, WrongWay
from warmshare.least import least_cold, least_heat, pinch
from warmshare.streams import Streams

GREAT = 10 ** 29


def filled(hots, colds):
    streams = Streams(10)
    for _ in range(hots):
        streams.put_hot(100, 40, 7)
    for _ in range(colds):
        streams.put_cold(20, 90, 5)
    return streams


class Asking(unittest.TestCase):
    def ask(self, streams, kind, stream):
        if kind == "hot":
            return streams.put_hot(*stream)
        return streams.put_cold(*stream)

    # Putting in and asking for the change are refused alike, and neither leaves a trace.
    def assert_refused(self, refusal, streams, kind, stream):
        before = (streams.works(), streams.least())
        for asked in (lambda: self.ask(streams, kind, stream), lambda: streams.change_with(kind, *stream)):
            with self.assertRaises(HeatError) as caught:
                asked()
            self.assertIs(type(caught.exception), refusal, (kind, stream))
            self.assertEqual((streams.works(), streams.least()), before)

    def assert_no_stream(self, streams, number):
        before = (streams.works(), streams.least())
        for asked in (streams.take_out, streams.change_without):
            with self.assertRaises(HeatError) as caught:
                asked(number)
            self.assertIs(type(caught.exception), NoStream, number)
            self.assertEqual((streams.works(), streams.least()), before)


class Point17Numbers(Asking):
    def test_from_one_on_for_both_kinds_together(self):
        streams = Streams(10)
        self.assertEqual([streams.put_hot(9, 8, 1), streams.put_cold(8, 9, 1), streams.put_cold(7, 9, 2),
                          streams.put_hot(9, 7, 2)], [1, 2, 3, 4])
        self.assertIs(type(streams.put_hot(9, 8, 1)), int)

    def test_never_the_same_again(self):
        streams = Streams(10)
        self.assertEqual([streams.put_hot(9, 8, 1), streams.put_cold(8, 9, 1)], [1, 2])
        streams.take_out(2)
        self.assertEqual(streams.put_cold(8, 9, 1), 3)
        streams.take_out(1)
        streams.take_out(3)
        self.assertEqual(streams.works(), (10, [], []))
        self.assertEqual(streams.put_hot(9, 8, 1), 4)

    def test_none_is_spent_by_what_is_refused(self):
        streams = filled(12, 1)
        self.assert_refused(Full, streams, "hot", (100, 40, 7))
        self.assert_refused(NoMeasure, streams, "cold", (20, 201, 7))
        self.assert_refused(WrongWay, streams, "cold", (20, 20, 7))
        self.assert_no_stream(streams, 14)
        self.assertEqual(streams.put_cold(20, 90, 5), 14)

    def test_none_is_spent_by_what_is_only_asked(self):
        streams = filled(1, 1)
        streams.change_with("hot", 100, 40, 7)
        streams.change_with("cold", 20, 90, 5)
        streams.change_without(1)
        self.assertEqual(streams.works(), (10, [(100, 40, 7)], [(20, 90, 5)]))
        self.assertEqual(streams.put_cold(20, 90, 5), 3)

    def test_two_objects_count_each_on_their_own(self):
        one, other = Streams(10), Streams(10)
        self.assertEqual([one.put_hot(9, 8, 1), one.put_hot(9, 8, 1), other.put_cold(8, 9, 1)], [1, 2, 1])
        self.assertEqual(one.works(), (10, [(9, 8, 1), (9, 8, 1)], []))
        self.assertEqual(other.works(), (10, [], [(8, 9, 1)]))


class Point17Told(Asking):
    def test_it_begins_without_streams(self):
        for gap in (0, 7, 50):
            self.assertEqual(Streams(gap).works(), (gap, [], []))
            self.assertEqual(Streams(gap).least(), (0, 0, None))

    def test_the_works_in_the_order_of_the_numbers(self):
        streams = Streams(10)
        streams.put_cold(50, 60, 3)
        streams.put_hot(90, 10, 2)
        streams.put_cold(1, 2, 1)
        streams.put_hot(200, 0, 10 ** 9)
        streams.put_hot(8, 7, 1)
        self.assertEqual(streams.works(), (10, [(90, 10, 2), (200, 0, 10 ** 9), (8, 7, 1)], [(50, 60, 3), (1, 2, 1)]))
        self.assertEqual(streams.take_out(4), (200, 0, 10 ** 9))
        streams.put_hot(5, 4, 9)
        self.assertEqual(streams.works(), (10, [(90, 10, 2), (8, 7, 1), (5, 4, 9)], [(50, 60, 3), (1, 2, 1)]))

    def test_the_kinds_of_what_is_told(self):
        streams = filled(1, 1)
        self.assertEqual([type(part) for part in streams.works()], [int, list, list])
        self.assertEqual([type(one) for one in streams.works()[1] + streams.works()[2]], [tuple, tuple])
        self.assertIs(type(streams.least()), tuple)
        self.assertIs(type(streams.change_with("hot", 9, 8, 1)), int)
        self.assertIs(type(streams.change_without(1)), int)
        self.assertIs(type(streams.take_out(1)), tuple)

    def test_the_least(self):
        streams = Streams(10)
        streams.put_hot(100, 50, 3)
        self.assertEqual(streams.least(), (0, 150, None))
        streams.put_cold(30, 80, 4)
        self.assertEqual(streams.least(), (50, 0, 40))
        streams.take_out(1)
        self.assertEqual(streams.least(), (200, 0, 40))

    def test_the_changes(self):
        streams = Streams(10)
        self.assertEqual(streams.change_with("cold", 30, 80, 4), 200)
        self.assertEqual(streams.change_with("hot", 100, 50, 3), 0)
        streams.put_cold(30, 80, 4)
        self.assertEqual(streams.change_with("hot", 100, 50, 3), -150)
        self.assertEqual(streams.change_with("hot", 40, 30, 3), 0)
        streams.put_hot(100, 50, 3)
        self.assertEqual(streams.change_without(1), -50)
        self.assertEqual(streams.change_without(2), 150)

    def test_the_changes_are_what_comes_of_it(self):
        source = random.Random(17)
        for _ in range(15):
            works = some_works(source)
            streams = Streams(works[0])
            for kind, stream in [("hot", one) for one in works[1]] + [("cold", one) for one in works[2]]:
                before = streams.least()[0]
                change = streams.change_with(kind, *stream)
                number = self.ask(streams, kind, stream)
                self.assertEqual(streams.least()[0] - before, change)
                self.assertEqual(streams.change_without(number), -change)
            self.assertEqual(streams.works(), works)
            self.assertEqual(streams.least(), (least_heat(works), least_cold(works), pinch(works)))
            numbers = list(range(1, len(works[1]) + len(works[2]) + 1))
            source.shuffle(numbers)
            for number in numbers:
                before = streams.least()[0]
                change = streams.change_without(number)
                self.assertEqual(streams.take_out(number), (works[1] + works[2])[number - 1])
                self.assertEqual(streams.least()[0] - before, change)
            self.assertEqual(streams.works(), (works[0], [], []))


class Point17Refusals(Asking):
    def test_full(self):
        self.assert_refused(Full, filled(12, 0), "hot", (100, 40, 7))
        self.assert_refused(Full, filled(0, 12), "cold", (20, 90, 5))

    def test_twelve_of_a_kind_are_not_too_many(self):
        streams = filled(11, 12)
        self.assertLess(streams.change_with("hot", 100, 40, 7), 1)
        self.assertEqual(streams.put_hot(100, 40, 7), 24)
        self.assertEqual([len(kind) for kind in streams.works()[1:]], [12, 12])
        streams = filled(12, 11)
        self.assertEqual(streams.put_cold(20, 90, 5), 24)

    def test_there_is_room_again_behind_a_stream_that_was_taken_out(self):
        streams = filled(12, 12)
        streams.take_out(5)
        self.assertEqual(streams.put_hot(100, 40, 7), 25)
        self.assert_refused(Full, streams, "cold", (20, 90, 5))
        streams.take_out(24)
        self.assertEqual(streams.put_cold(20, 90, 5), 26)
        self.assert_refused(Full, streams, "hot", (100, 40, 7))

    def test_no_measure(self):
        for wrong in (-1, 201, GREAT, -GREAT):
            self.assert_refused(NoMeasure, Streams(10), "hot", (wrong, 40, 7))
            self.assert_refused(NoMeasure, Streams(10), "hot", (100, wrong, 7))
            self.assert_refused(NoMeasure, Streams(10), "cold", (wrong, 90, 7))
            self.assert_refused(NoMeasure, Streams(10), "cold", (20, wrong, 7))
        for wrong in (0, -1, 10 ** 9 + 1, GREAT, -GREAT):
            self.assert_refused(NoMeasure, Streams(10), "hot", (100, 40, wrong))
            self.assert_refused(NoMeasure, Streams(10), "cold", (20, 90, wrong))

    def test_the_bounds_themselves_are_taken(self):
        streams = Streams(0)
        streams.put_hot(200, 0, 10 ** 9)
        streams.put_hot(1, 0, 1)
        streams.put_cold(0, 200, 10 ** 9)
        streams.put_cold(199, 200, 1)
        self.assertEqual(streams.works(), (0, [(200, 0, 10 ** 9), (1, 0, 1)], [(0, 200, 10 ** 9), (199, 200, 1)]))

    def test_wrong_way(self):
        for start, goal in ((40, 40), (40, 41), (0, 200), (0, 0), (200, 200)):
            self.assert_refused(WrongWay, Streams(10), "hot", (start, goal, 7))
            self.assert_refused(WrongWay, Streams(10), "cold", (goal, start, 7))

    def test_full_comes_ahead_of_no_measure_ahead_of_wrong_way(self):
        for stream in ((201, 202, 7), (40, 40, 7), (40, 40, 0), (GREAT, -GREAT, GREAT)):
            self.assert_refused(Full, filled(12, 0), "hot", stream)
            self.assert_refused(Full, filled(0, 12), "cold", stream)
        for stream in ((201, 201, 7), (40, 40, 0), (40, 40, 10 ** 9 + 1), (-1, -1, 7)):
            self.assert_refused(NoMeasure, filled(0, 12), "hot", stream)
            self.assert_refused(NoMeasure, filled(12, 0), "cold", stream)
        self.assert_refused(NoMeasure, filled(0, 12), "hot", (40, 201, 7))
        self.assert_refused(NoMeasure, filled(12, 0), "cold", (201, 40, 7))

    def test_no_stream(self):
        for number in (1, 0, -1, GREAT):
            self.assert_no_stream(Streams(10), number)
        streams = filled(2, 1)
        for number in (0, -1, 4, GREAT, -GREAT):
            self.assert_no_stream(streams, number)
        streams.take_out(2)
        self.assert_no_stream(streams, 2)
        streams.put_hot(100, 40, 7)
        self.assert_no_stream(streams, 2)
        self.assertEqual(streams.works(), (10, [(100, 40, 7), (100, 40, 7)], [(20, 90, 5)]))


class Point18(Asking):
    def test_never_against_its_kind_and_by_no_more_than_its_own_heat(self):
        source = random.Random(18)
        changed = 0
        for _ in range(60):
            works = some_works(source)
            streams = Streams(works[0])
            for stream in works[1][:11]:
                streams.put_hot(*stream)
            for stream in works[2][:11]:
                streams.put_cold(*stream)
            low, high = sorted(source.sample(range(201), 2))
            rate = source.randint(1, 10 ** source.randint(0, 9))
            heat = (high - low) * rate
            lowered = streams.change_with("hot", high, low, rate)
            raised = streams.change_with("cold", low, high, rate)
            self.assertIn(lowered, range(-heat, 1))
            self.assertIn(raised, range(heat + 1))
            changed += (lowered < 0) + (raised > 0)
            for number in range(1, len(works[1][:11]) + 1):
                start, goal, rate = works[1][number - 1]
                self.assertIn(streams.change_without(number), range((start - goal) * rate + 1))
        self.assertGreater(changed, 30)

    def test_by_all_its_heat_and_not_at_all(self):
        streams = Streams(10)
        self.assertEqual(streams.change_with("cold", 0, 200, 10 ** 9), 200 * 10 ** 9)
        streams.put_hot(200, 100, 10 ** 9)
        self.assertEqual(streams.change_with("cold", 10, 90, 10 ** 9), 0)
        streams.put_cold(10, 90, 10 ** 9)
        self.assertEqual(streams.change_without(1), 80 * 10 ** 9)
        self.assertEqual(streams.change_without(2), 0)


class Point2(unittest.TestCase):
    def test_told_lists_are_the_askers_own(self):
        streams = filled(1, 1)
        first, second = streams.works(), streams.works()
        empty = Streams(10).works()
        lists = [first[1], first[2], second[1], second[2], empty[1], empty[2]]
        self.assertEqual(len({id(one) for one in lists}), 6)
        least = streams.least()
        first[1].append((9, 8, 7))
        first[2].clear()
        self.assertEqual(second, (10, [(100, 40, 7)], [(20, 90, 5)]))
        self.assertEqual(streams.works(), second)
        self.assertEqual(streams.least(), least)

    def test_told_works_stay_as_they_are_behind_changes(self):
        streams = filled(1, 1)
        first = streams.works()
        kept = copy.deepcopy(first)
        streams.put_hot(9, 8, 7)
        streams.take_out(2)
        self.assertEqual(first, kept)

    def test_one_object_does_not_change_another(self):
        one, other = filled(2, 1), filled(2, 1)
        before = (other.works(), other.least(), other.change_without(1), other.change_with("cold", 5, 95, 3))
        one.put_cold(5, 95, 3)
        one.take_out(1)
        self.assertEqual((other.works(), other.least(), other.change_without(1),
                          other.change_with("cold", 5, 95, 3)), before)

    def test_the_same_asked_of_the_same_is_answered_the_same(self):
        streams = filled(3, 2)
        for asked in (streams.works, streams.least, lambda: streams.change_with("hot", 150, 30, 9),
                      lambda: streams.change_without(4)):
            self.assertEqual(asked(), asked())


if __name__ == "__main__":
    unittest.main()
