import copy
import random
import re
import unittest

from tests.samples import some_works
from warmshare.errors import HeatError, NoMeasure, NoRow, WrongWay
from warmshare.works import read, shown

HOT = "hot 100 40 7"
COLD = "cold 20 90 5"


def text_of(*rows):
    return "\n".join(rows)


# Points 6 and 7 told a second time by patterns: the class of the refusal, or None.
def refusal_of(text):
    number = "(0|[1-9][0-9]{0,9})"
    gap = re.compile(f"gap {number}")
    stream = re.compile(f"(hot|cold) {number} {number} {number}")
    rows = text.split("\n")
    found = gap.fullmatch(rows[0])
    if not found:
        return NoRow
    if int(found[1]) > 50:
        return NoMeasure
    kinds = []
    for row in rows[1:]:
        found = stream.fullmatch(row)
        if not found or found[1] == "hot" and "cold" in kinds or kinds.count(found[1]) == 12:
            return NoRow
        start, goal, rate = int(found[2]), int(found[3]), int(found[4])
        if start > 200 or goal > 200 or rate == 0 or rate > 10 ** 9:
            return NoMeasure
        if start <= goal and found[1] == "hot" or start >= goal and found[1] == "cold":
            return WrongWay
        kinds.append(found[1])
    return None


class Reading(unittest.TestCase):
    def assert_refused(self, refusal, *texts):
        for text in texts:
            with self.subTest(text=text):
                with self.assertRaises(HeatError) as caught:
                    read(text)
                self.assertIs(type(caught.exception), refusal)

    def assert_both_ways(self, text, works):
        with self.subTest(text=text):
            self.assertEqual(read(text), works)
            self.assertEqual(shown(works), text)


class Point4Works(Reading):
    def test_an_ordinary_works(self):
        text = "gap 10\nhot 150 60 2\nhot 90 60 8\ncold 20 125 3\ncold 25 100 3"
        works = (10, [(150, 60, 2), (90, 60, 8)], [(20, 125, 3), (25, 100, 3)])
        self.assert_both_ways(text, works)

    def test_the_kinds_of_what_is_told(self):
        works = read(text_of("gap 10", HOT, COLD))
        self.assertIs(type(works), tuple)
        self.assertEqual([type(part) for part in works], [int, list, list])
        for stream in works[1] + works[2]:
            self.assertIs(type(stream), tuple)
            self.assertEqual([type(number) for number in stream], [int, int, int])

    def test_the_least_and_the_greatest_numbers(self):
        self.assert_both_ways("gap 0\nhot 200 0 1\ncold 0 200 1000000000",
                              (0, [(200, 0, 1)], [(0, 200, 10 ** 9)]))
        self.assert_both_ways("gap 50\nhot 1 0 1000000000\ncold 199 200 1",
                              (50, [(1, 0, 10 ** 9)], [(199, 200, 1)]))

    def test_none_of_a_kind(self):
        self.assert_both_ways("gap 7", (7, [], []))
        self.assert_both_ways("gap 7\n" + HOT, (7, [(100, 40, 7)], []))
        self.assert_both_ways("gap 7\n" + COLD, (7, [], [(20, 90, 5)]))

    def test_twelve_of_a_kind(self):
        hots = [(100 + k, 40, 7 + k) for k in range(12)]
        colds = [(20, 90 + k, 5 + k) for k in range(12)]
        hot_rows = [f"hot {100 + k} 40 {7 + k}" for k in range(12)]
        cold_rows = [f"cold 20 {90 + k} {5 + k}" for k in range(12)]
        self.assert_both_ways(text_of("gap 3", *hot_rows), (3, hots, []))
        self.assert_both_ways(text_of("gap 3", *cold_rows), (3, [], colds))
        self.assert_both_ways(text_of("gap 3", *hot_rows, *cold_rows), (3, hots, colds))

    def test_streams_keep_their_order_and_may_be_alike(self):
        self.assert_both_ways("gap 1\nhot 5 4 9\nhot 200 0 1\nhot 5 4 9\ncold 9 10 2\ncold 1 2 3\ncold 1 2 3",
                              (1, [(5, 4, 9), (200, 0, 1), (5, 4, 9)], [(9, 10, 2), (1, 2, 3), (1, 2, 3)]))


class Point6Text(Reading):
    def test_the_text_of_a_works_is_read_to_just_this_works(self):
        source = random.Random(6)
        for _ in range(300):
            works = some_works(source)
            text = shown(works)
            self.assertIs(type(text), str)
            self.assertEqual(read(text), works)
            self.assertEqual(shown(read(text)), text)

    def test_numbers_of_one_to_ten_figures(self):
        for figures in range(1, 10):
            rate = int("1234567891"[:figures])
            self.assert_both_ways(f"gap 0\nhot 9 8 {rate}", (0, [(9, 8, rate)], []))
        self.assert_both_ways("gap 0\nhot 9 8 1000000000", (0, [(9, 8, 10 ** 9)], []))
        for number in ("1000000001", "9999999999"):
            self.assert_refused(NoMeasure, f"gap {number}", f"gap 0\nhot {number} 8 1",
                                f"gap 0\ncold 8 {number} 1", f"gap 0\nhot 9 8 {number}")
        for number in ("10000000000", "99999999999", "1" + "0" * 29, "00000000001"):
            self.assert_refused(NoRow, f"gap {number}", f"gap 0\nhot {number} 8 1",
                                f"gap 0\ncold 8 {number} 1", f"gap 0\nhot 9 8 {number}")

    def test_noughts_ahead(self):
        self.assert_both_ways("gap 0\nhot 10 0 100\ncold 0 10 100", (0, [(10, 0, 100)], [(0, 10, 100)]))
        for number in ("00", "01", "010", "0000000000"):
            self.assert_refused(NoRow, f"gap {number}", f"gap 0\nhot {number} 0 1",
                                f"gap 0\nhot 9 {number} 1", f"gap 0\ncold 1 9 {number}")

    def test_what_is_no_number(self):
        for word in ("", "-1", "+1", "-0", "1.0", "1_0", "1e1", "x", "1x", "x1", "0x1", "'1'", "(1)", "1,"):
            self.assert_refused(NoRow, f"gap {word}", f"gap 0\nhot {word} 0 1",
                                f"gap 0\nhot 9 {word} 1", f"gap 0\ncold 1 9 {word}")

    def test_one_blank_parts_words(self):
        good = "gap 10\n" + HOT + "\n" + COLD
        self.assertEqual(read(good), (10, [(100, 40, 7)], [(20, 90, 5)]))
        for place, sign in enumerate(good):
            if sign == " ":
                self.assert_refused(NoRow, good[:place] + good[place + 1:],
                                    good[:place] + "  " + good[place + 1:],
                                    good[:place] + "\n" + good[place + 1:],
                                    good[:place] + "\t" + good[place + 1:])

    def test_one_line_feed_parts_rows(self):
        good = "gap 10\n" + HOT + "\n" + COLD
        for place, sign in enumerate(good):
            if sign == "\n":
                self.assert_refused(NoRow, good[:place] + good[place + 1:],
                                    good[:place] + "\n\n" + good[place + 1:],
                                    good[:place] + " " + good[place + 1:],
                                    good[:place] + " \n" + good[place + 1:],
                                    good[:place] + "\n " + good[place + 1:])

    def test_nothing_stands_ahead_or_behind(self):
        for good in ("gap 10", "gap 10\n" + HOT, "gap 10\n" + HOT + "\n" + COLD):
            for more in (" ", "\n", "\n\n", " \n", "\n "):
                self.assert_refused(NoRow, good + more, more + good)

    def test_texts_without_words(self):
        self.assert_refused(NoRow, "", " ", "  ", "\n", "\n\n", " \n ")

    def test_a_text_with_one_sign_changed_is_refused_or_told_back(self):
        good = "gap 10\nhot 100 40 7\ncold 20 90 1000000000"
        for place in range(len(good) + 1):
            texts = [good[:place] + good[place + 1:]]
            for sign in "0159 \nhx-+_.":
                texts.append(good[:place] + sign + good[place:])
                texts.append(good[:place] + sign + good[place + 1:])
            for text in texts:
                refusal = refusal_of(text)
                if refusal is None:
                    self.assertEqual(shown(read(text)), text)
                else:
                    self.assert_refused(refusal, text)


class Point7NoRow(Reading):
    def test_the_first_row_is_the_gaps(self):
        self.assert_refused(NoRow, HOT, COLD, text_of(HOT, "gap 10"), "10", "gap", "gap ", "gap 1 2", "gap 1 ",
                            "Gap 10", "GAP 10", "gaps 10", "ga 10", "gap=10", "hot 10", "cold 10")

    def test_each_other_row_is_a_streams(self):
        for row in ("gap 10", "gap 10 20 30", "hot", "hot 9", "hot 9 8", "hot 9 8 7 6", "cold 8 9", "cold 8 9 7 6",
                    "warm 9 8 7", "Hot 9 8 7", "HOT 9 8 7", "hots 9 8 7", "ho 9 8 7", "9 8 7", "hot 9 8 7 ", " 9 8 7",
                    "Cold 8 9 7", "colder 8 9 7", "hot cold 8 9", ""):
            self.assert_refused(NoRow, text_of("gap 10", row), text_of("gap 10", HOT, row),
                                text_of("gap 10", row, COLD), text_of("gap 10", HOT, COLD, row))

    def test_a_hot_streams_row_behind_a_cold_ones(self):
        self.assert_refused(NoRow, text_of("gap 10", COLD, HOT), text_of("gap 10", HOT, COLD, HOT),
                            text_of("gap 10", HOT, COLD, COLD, HOT), text_of("gap 10", COLD, HOT, COLD))

    def test_the_thirteenth_of_a_kind(self):
        for others in (0, 1, 11, 12):
            self.assert_refused(NoRow, text_of("gap 10", *[HOT] * 13, *[COLD] * others),
                                text_of("gap 10", *[HOT] * others, *[COLD] * 13))
            self.assertEqual(read(text_of("gap 10", *[HOT] * 12, *[COLD] * others)),
                             (10, [(100, 40, 7)] * 12, [(20, 90, 5)] * others))
            self.assertEqual(read(text_of("gap 10", *[HOT] * others, *[COLD] * 12)),
                             (10, [(100, 40, 7)] * others, [(20, 90, 5)] * 12))
        self.assert_refused(NoRow, text_of("gap 10", *[HOT] * 13, *[COLD] * 13))


class Point7NoMeasure(Reading):
    def test_the_gap(self):
        self.assertEqual(read("gap 50"), (50, [], []))
        self.assertEqual(read("gap 49"), (49, [], []))
        self.assert_refused(NoMeasure, "gap 51", "gap 52", "gap 100", "gap 9999999999")

    def test_degrees(self):
        self.assertEqual(read("gap 0\nhot 200 199 1\ncold 199 200 1"), (0, [(200, 199, 1)], [(199, 200, 1)]))
        self.assertEqual(read("gap 0\nhot 1 0 1\ncold 0 1 1"), (0, [(1, 0, 1)], [(0, 1, 1)]))
        self.assert_refused(NoMeasure, "gap 0\nhot 201 0 1", "gap 0\nhot 202 201 1", "gap 0\ncold 0 201 1",
                            "gap 0\ncold 201 202 1", "gap 0\nhot 9999999999 0 1", "gap 0\ncold 0 9999999999 1")

    def test_rates(self):
        self.assertEqual(read("gap 0\nhot 9 8 1\ncold 8 9 1000000000"), (0, [(9, 8, 1)], [(8, 9, 10 ** 9)]))
        self.assert_refused(NoMeasure, "gap 0\nhot 9 8 0", "gap 0\ncold 8 9 0",
                            "gap 0\nhot 9 8 1000000001", "gap 0\ncold 8 9 1000000001")


class Point7WrongWay(Reading):
    def test_a_hot_streams_goal_is_below_its_start(self):
        self.assertEqual(read("gap 0\nhot 60 59 1"), (0, [(60, 59, 1)], []))
        self.assert_refused(WrongWay, "gap 0\nhot 60 60 1", "gap 0\nhot 60 61 1", "gap 0\nhot 0 200 1",
                            "gap 0\nhot 0 0 1", "gap 0\nhot 200 200 1")

    def test_a_cold_streams_goal_is_above_its_start(self):
        self.assertEqual(read("gap 0\ncold 60 61 1"), (0, [], [(60, 61, 1)]))
        self.assert_refused(WrongWay, "gap 0\ncold 60 60 1", "gap 0\ncold 60 59 1", "gap 0\ncold 200 0 1",
                            "gap 0\ncold 0 0 1", "gap 0\ncold 200 200 1")


class Point7Order(Reading):
    def test_the_first_faulty_rows_refusal(self):
        faults = {NoRow: "warm 9 8 7", NoMeasure: "hot 201 8 7", WrongWay: "hot 8 9 7"}
        for first in faults:
            for second in faults:
                rows = (faults[first], faults[second])
                self.assert_refused(first, text_of("gap 0", *rows), text_of("gap 0", HOT, *rows),
                                    text_of("gap 0", rows[0], HOT, rows[1]), text_of("gap 0", *rows, COLD))

    def test_the_gaps_row_is_the_first(self):
        for row in ("", "warm 9 8 7", "hot 201 8 7", "hot 8 9 7"):
            self.assert_refused(NoMeasure, text_of("gap 51", row))
            self.assert_refused(NoRow, text_of("gap 051", row), text_of("gap", row))

    def test_a_fault_of_the_texts_end_comes_last(self):
        self.assert_refused(NoMeasure, "gap 51\n", "gap 0\nhot 201 8 7\n", "gap 0\nhot 9 8 0\n\n")
        self.assert_refused(WrongWay, "gap 0\nhot 8 9 7\n", "gap 0\ncold 9 8 7\n\n")

    def test_a_fault_behind_the_thirteenth_and_one_ahead_of_it(self):
        self.assert_refused(NoRow, text_of("gap 0", *[HOT] * 13, "hot 8 9 7"))
        self.assert_refused(WrongWay, text_of("gap 0", "hot 8 9 7", *[HOT] * 13))
        self.assert_refused(NoMeasure, text_of("gap 0", *[HOT] * 11, "hot 201 9 7", HOT))
        self.assert_refused(WrongWay, text_of("gap 0", COLD, "cold 9 8 7", HOT))

    def test_no_row_comes_ahead_of_no_measure_and_wrong_way(self):
        self.assert_refused(NoRow, "gap 51 1", "gaps 51", "gap 0\nhot 201 8 07", "gap 0\nhot 201 8", "gap 0\nhot 8 9 x",
                            "gap 0\nwarm 201 8 7", "gap 0\nhot 201 202 0 ", "gap 0\nhot 8 9 7 6")
        for faulty in ("201 8 7", "9 201 7", "9 8 0", "8 9 7", "8 8 7", "201 202 0"):
            self.assert_refused(NoRow, text_of("gap 0", COLD, "hot " + faulty))
            self.assert_refused(NoRow, text_of("gap 0", *[HOT] * 12, "hot " + faulty))
        for faulty in ("8 201 7", "201 9 7", "8 9 0", "9 8 7", "8 8 7", "202 201 0"):
            self.assert_refused(NoRow, text_of("gap 0", *[COLD] * 12, "cold " + faulty))

    def test_no_measure_comes_ahead_of_wrong_way(self):
        self.assert_refused(NoMeasure, "gap 0\nhot 8 201 7", "gap 0\nhot 201 201 7", "gap 0\nhot 8 9 0",
                            "gap 0\nhot 8 8 1000000001", "gap 0\ncold 201 8 7", "gap 0\ncold 201 201 7",
                            "gap 0\ncold 9 8 0", "gap 0\ncold 8 8 1000000001")

    def test_as_the_patterns_say_it(self):
        source = random.Random(7)
        gaps = ["gap 0", "gap 50", "gap 9", "gap 51", "gap 09"]
        rows = [HOT, HOT, HOT, COLD, COLD, COLD, HOT, COLD, "hot 1 2 3", "cold 2 1 3", "hot 2 1 0", "cold 1 201 1",
                "", "cold 1 2 3 ", "hot 02 1 3", "cold 7 8 12345678901", "gap 5"]
        for _ in range(2000):
            chosen = [source.choice(rows) for _ in range(source.randint(0, 3))]
            hots = [HOT] * source.choice((0, 1, 11, 12, 13))
            colds = [COLD] * source.choice((0, 1, 11, 12, 13))
            text = text_of(source.choice(gaps), *hots, *colds, *chosen)
            refusal = refusal_of(text)
            if refusal is None:
                self.assertEqual(shown(read(text)), text)
            else:
                self.assert_refused(refusal, text)


class Point2(Reading):
    def test_what_is_shown_stays_as_it_is(self):
        source = random.Random(2)
        for _ in range(50):
            works = some_works(source)
            before = copy.deepcopy(works)
            first = shown(works)
            self.assertEqual(works, before)
            self.assertEqual(shown(works), first)

    def test_each_told_list_is_the_askers_own(self):
        for text in ("gap 10", text_of("gap 10", HOT, COLD)):
            first = read(text)
            kept = copy.deepcopy(first)
            second = read(text)
            lists = [first[1], first[2], second[1], second[2]]
            self.assertEqual(len({id(one) for one in lists}), 4)
            first[1].append((9, 8, 7))
            self.assertEqual(first[2], kept[2])
            first[2].clear()
            self.assertEqual(first[1], kept[1] + [(9, 8, 7)])
            self.assertEqual(second, kept)
            self.assertEqual(read(text), kept)

    def test_a_shown_works_that_is_changed_is_shown_anew(self):
        works = (10, [(100, 40, 7)], [])
        self.assertEqual(shown(works), "gap 10\nhot 100 40 7")
        works[1].clear()
        works[2].append((20, 90, 5))
        self.assertEqual(shown(works), "gap 10\ncold 20 90 5")

    def test_what_lies_somewhat_beyond_the_bounds_is_shown_all_the_same(self):
        works = (51, [(201, 0, 10 ** 11)] * 13, [(0, 201, 0)])
        rows = ["gap 51"] + ["hot 201 0 100000000000"] * 13 + ["cold 0 201 0"]
        self.assertEqual(shown(works), text_of(*rows))


if __name__ == "__main__":
    unittest.main()
