"""[14] which rows lead from a stream to the events that were told of it."""

import random
import time
import unittest
from itertools import combinations, product

from quietrows.errors import BadNumbers, BadStream, Large
from quietrows.forms import Normal, row_of
from quietrows.leading import count_leading, least_leading, telling_stream
from quietrows.rows import Row, told_events, told_times
from tests import oracle

HUGE = 10 ** 30


def all_records(most):
    """The records of all normal forms with quiets up to the most."""
    found = []
    for kinds in product((None, "last", "first", "limit"), repeat=max(most - 1, 0)):
        found.append(tuple((kind, quiet) for quiet, kind in enumerate(kinds, 2) if kind))
    return found


def row_with(records):
    return row_of(Normal(records, sum(quiet for kind, quiet in records if kind == "last")))


def told_numbers(records, stream):
    return tuple(one.number for one in told_events(row_with(records), stream))


def rows_by_numbers(stream, most):
    found = {}
    for records in all_records(most):
        found.setdefault(told_numbers(records, stream), []).append(records)
    return found


def stream_with(gaps, begin=0):
    return [begin + sum(gaps[:place]) for place in range(len(gaps) + 1)]


def some_streams(many, longest, widest):
    for seed in range(many):
        chosen = random.Random(seed)
        yield stream_with([chosen.randint(1, widest) for _ in range(chosen.randint(0, longest))],
                          chosen.randint(-9, 9))


class Leading(unittest.TestCase):

    def check(self, stream, most):
        """Hold both functions against all rows with small quiets, for all numbers."""
        found = rows_by_numbers(stream, most)
        for many in range(len(stream) + 1):
            for numbers in combinations(range(len(stream)), many):
                rows = found.get(numbers, [])
                self.assertEqual(count_leading(stream, numbers, most), len(rows), (stream, numbers, most))
                least = min(rows, key=lambda records: (len(records), records), default=None)
                self.assertEqual(least_leading(stream, numbers, most), least, (stream, numbers, most))

    def test_all_numbers_of_all_short_streams(self):
        for stream in oracle.short_streams(4, 3):
            for most in (1, 2, 3, 4, 5):
                self.check(stream, most)

    def test_some_streams(self):
        for stream in some_streams(25, 7, 5):
            self.check(stream, 5)

    def test_sixteen_events(self):
        stream = stream_with([1, 3, 2, 2, 1, 4, 3, 1, 1, 2, 5, 1, 3, 2, 1])
        for numbers, rows in rows_by_numbers(stream, 5).items():
            self.assertEqual(count_leading(stream, numbers, 5), len(rows))
            self.assertEqual(least_leading(stream, numbers, 5), min(rows, key=lambda one: (len(one), one)))

    def test_all_counts_add_up_to_all_rows(self):
        stream = stream_with([3, 1, 4, 1, 5, 9, 2])
        for most in (1, 2, 7, 40, 300):
            counts = [count_leading(stream, numbers, most)
                      for many in range(len(stream) + 1) for numbers in combinations(range(len(stream)), many)]
            self.assertEqual(sum(counts), 4 ** (most - 1))

    def test_the_order_of_the_least(self):
        # Fewest records come first, then a lesser kind by its letters, then a lesser quiet.
        self.assertEqual(least_leading([0, 1, 9], [0, 2], 9), (("first", 2),))
        self.assertEqual(least_leading([0, 1, 9], [1, 2], 9), (("last", 2),))
        self.assertEqual(least_leading([0, 2, 4], [0, 2], 9), (("limit", 3),))
        self.assertEqual(least_leading([0, 5, 7], [1], 9), (("first", 3), ("last", 6)))
        self.assertEqual(least_leading([0, 5, 7], [0], 9), (("first", 6),))
        self.assertEqual(least_leading([0, 5, 7], [2], 9), (("last", 6),))

    def test_numbers_to_which_no_row_leads(self):
        for stream, numbers in (([0, 2, 4], [1]), ([0, 1, 9, 10], [1, 2]), ([0, 3], []), ([0, 9, 18, 27], [0, 2, 3])):
            for most in (2, 3, 300):
                self.assertEqual(count_leading(stream, numbers, most), 0)
                self.assertIsNone(least_leading(stream, numbers, most))
        self.assertEqual(count_leading([0, 5], [0], 5), 0)
        self.assertIsNone(least_leading([0, 5], [0], 5))
        self.assertEqual(least_leading([0, 5], [0], 6), (("first", 6),))

    def test_all_events_told(self):
        self.assertEqual(count_leading([0, 4, 9], [0, 1, 2], 300), 4 ** 3)
        self.assertEqual(count_leading([0, 4, 9], [0, 1, 2], 3), 4 ** 2)
        self.assertEqual(count_leading([7], [0], 300), 4 ** 299)
        for most in (-HUGE, 0, 1, 2, HUGE):
            self.assertEqual(least_leading([0, 4, 9], [0, 1, 2], most), ())

    def test_a_stream_without_events(self):
        for empty in ([], ()):
            self.assertEqual(count_leading(empty, empty, 300), 4 ** 299)
            self.assertEqual(count_leading(empty, empty, 2), 4)
            self.assertEqual(count_leading(empty, empty, -3), 1)
            self.assertEqual(least_leading(empty, empty, HUGE), ())

    def test_below_two_there_is_the_row_without_records_alone(self):
        for most in (1, 0, -1, -HUGE):
            self.assertEqual(count_leading([0, 1], [0, 1], most), 1)
            self.assertEqual(count_leading([0, 1], [0], most), 0)
            self.assertEqual(count_leading([0, 1], [], most), 0)
            self.assertIsNone(least_leading([0, 1], [0], most))

    def test_quiets_up_to_three_hundred(self):
        stream = stream_with([100, 40, 299])
        # A First of the quiets from 41 to 100, with any of greater quiet up to 100 that are idle, and so on.
        counts = {}
        for first in range(41, 101):
            for kind in ("last", "first", "limit"):
                numbers = told_numbers(((kind, first),), stream)
                counts[numbers] = counts.get(numbers, 0) + 4 ** (39 + 100 - first)
        for numbers, many in counts.items():
            self.assertEqual(count_leading(stream, numbers, 100), many)
        self.assertEqual(count_leading([0, 299], [0], 300), 2 * 4 ** 298)

    def test_large(self):
        for most in (301, HUGE):
            for stream, numbers in (([0, 1], [0]), ([], []), ([0, 1], [])):
                with self.assertRaises(Large) as caught:
                    count_leading(stream, numbers, most)
                self.assertEqual(caught.exception.count, most)
        self.assertEqual(least_leading([0, 1], [0], 301), (("first", 2),))

    def test_gaps_as_wide_as_the_greatest_numbers(self):
        stream = [-HUGE, 0, HUGE, HUGE + 5]
        self.assertEqual(least_leading(stream, [0, 1, 2], HUGE), (("first", 6),))
        self.assertIsNone(least_leading(stream, [0], HUGE))
        self.assertEqual(least_leading(stream, [0], HUGE + 1), (("first", HUGE + 1),))
        self.assertEqual(least_leading(stream, [2], HUGE + 1), (("first", 6), ("last", HUGE + 1)))
        self.assertEqual(least_leading(stream, [0, 3], HUGE * 10), (("limit", 2 * HUGE + 1),))
        self.assertEqual(least_leading(stream, [0, 3], 2 * HUGE), (("last", 6), ("first", HUGE + 1)))
        self.assertEqual(count_leading(stream, [0, 1, 2], 300),
                         2 * sum(4 ** (300 - one) for one in range(6, 301)) * 256)

    def test_each_least_row_tells_these_events_and_all_ways_lead(self):
        for stream in some_streams(30, 15, 40):
            for records in (((("last", 5), ("first", 9), ("limit", 20), ("last", 33))), (("limit", 7), ("last", 19))):
                numbers = told_numbers(records, stream)
                least = least_leading(stream, numbers, 40)
                self.assertEqual(told_numbers(least, stream), numbers)
                self.assertLessEqual((len(least), least), (len(records), records))
                self.assertGreater(count_leading(stream, numbers, 40), 0)

    def test_answers_come_soon(self):
        wide = stream_with([1266, 1138, 1147, 1051, 1115, 1077, 1062, 1167, 1170, 1273, 1235, 1234, 1297, 1221, 1171])
        narrow = stream_with([226, 98, 107, 11, 75, 37, 22, 127, 130, 233, 195, 194, 257, 181, 131])
        begin = time.monotonic()
        for number in range(16):
            least_leading(wide, [number], HUGE)
            count_leading(narrow, [number], 300)
        self.assertLess(time.monotonic() - begin, 6)
        begin = time.monotonic()
        for _ in range(1000):
            count_leading([0, 1, 3, 4, 9], [2, 4], 12)
            least_leading([0, 1, 3, 4, 9], [2, 4], 12)
        self.assertLess(time.monotonic() - begin, 2)


class Errors(unittest.TestCase):

    def test_bad_streams_come_first(self):
        for call in (count_leading, least_leading):
            for stream, place in ((None, -1), ("12", -1), (5, -1), ({}, -1), ([True], 0), ([0, None], 1), ((1, 1), 1),
                                  ([0, 2, 1], 2), ([0, 1.5], 1)):
                for numbers in (None, [9], [0]):
                    with self.subTest(stream=stream), self.assertRaises(BadStream) as caught:
                        call(stream, numbers, 301)
                    self.assertEqual(caught.exception.place, place)

    def test_bad_numbers_come_before_large(self):
        for call in (count_leading, least_leading):
            for numbers, place in ((None, -1), ("01", -1), (0, -1), ({}, -1), ([3], 0), ([-1], 0), ([0, 0], 1),
                                   ([1, 0], 1), ([0, 1, 3], 2), ([False], 0), ([0, True], 1), ([None], 0),
                                   ((0, "1"), 1),
                                   ([0, 1, 2, 3], 3), ([0, 3, 2], 1), ([2.0], 0)):
                for most in (3, 301):
                    with self.subTest(numbers=numbers), self.assertRaises(BadNumbers) as caught:
                        call([5, 6, 9], numbers, most)
                    self.assertEqual(caught.exception.place, place)
            for numbers, place in (([0], 0), (None, -1)):
                with self.assertRaises(BadNumbers) as caught:
                    call([], numbers, 5)
                self.assertEqual(caught.exception.place, place)


class TellingStream(unittest.TestCase):

    def test_all_rows_with_unlike_forms_tell_unlike_times_and_events(self):
        for most in (1, 2, 3, 4):
            stream = telling_stream(most)
            self.assertIs(type(stream), list)
            self.assertTrue(1 <= len(stream) <= 2000)
            rows = [row_with(records) for records in all_records(most)]
            self.assertEqual(len(rows), 4 ** (most - 1))
            self.assertEqual(len({tuple(told_times(row, stream)) for row in rows}), len(rows))
            self.assertEqual(len({tuple(one.number for one in told_events(row, stream)) for row in rows}), len(rows))

    def test_it_is_new_each_time_and_the_same(self):
        for most in (1, 4):
            stream = telling_stream(most)
            kept = list(stream)
            stream.clear()
            self.assertEqual(telling_stream(most), kept)
            self.assertEqual(told_times(Row([]), telling_stream(most)), kept)

    def test_large(self):
        for most in (0, 5, -1, HUGE, -HUGE):
            with self.assertRaises(Large) as caught:
                telling_stream(most)
            self.assertEqual(caught.exception.count, most)
