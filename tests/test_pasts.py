"""[10] which times a row can tell, and how many streams lead to them."""

import random
import time
import unittest
from itertools import combinations

from quietrows.errors import BadStream, Large
from quietrows.forms import normal_form
from quietrows.members import Delay, First, Last, Limit
from quietrows.pasts import can_tell, count_pasts
from quietrows.rows import Row
from tests import oracle

HUGE = 10 ** 30


def subsets(times):
    return [chosen for many in range(len(times) + 1) for chosen in combinations(times, many)]


def pasts_by_times(pairs, begin, end):
    """For all times that are told of streams in a window, how many of these streams there are."""
    counts = {}
    for stream in subsets(range(begin, end + 1)):
        times = tuple(one[1] for one in oracle.told(pairs, stream))
        counts[times] = counts.get(times, 0) + 1
    return counts


class CountPasts(unittest.TestCase):

    def check(self, pairs, begin, end):
        """Hold each count for times in or about the window against all streams in it."""
        row = oracle.made(pairs)
        lag = normal_form(row).delay
        counts = pasts_by_times(pairs, begin, end)
        about = range(begin + lag - 1, end + lag + 2)
        for times in set(subsets(about)) | set(counts) if end - begin < 6 else counts:
            self.assertEqual(count_pasts(row, times, begin, end), counts.get(times, 0), (pairs, times, begin, end))

    def test_rows_of_one_record(self):
        for kind in ("last", "first", "limit"):
            for quiet in (1, 2, 3, 4, 5, 9):
                self.check([(kind, quiet)], -2, 3)
                self.check([(kind, quiet)], 0, 7)

    def test_rows_of_two_and_three_records(self):
        kinds = ("last", "first", "limit")
        for one in kinds:
            for two in kinds:
                for quiets in ((2, 3), (2, 5), (3, 4), (3, 5)):
                    self.check(list(zip((one, two), quiets)), 1, 8)
                for three in kinds:
                    self.check(list(zip((one, two, three), (2, 3, 5))), 0, 7)
                    self.check(list(zip((one, two, three), (2, 4, 5))), -3, 2)

    def test_members_that_are_no_records(self):
        self.check([], -2, 3)
        self.check([("delay", 4)], -2, 3)
        self.check([("delay", 0), ("first", 1), ("last", 1), ("delay", 2)], 0, 5)
        self.check([("last", 3), ("last", 2), ("delay", 3), ("limit", 3), ("first", 4), ("limit", 2)], 0, 7)

    def test_some_rows(self):
        for seed in range(40):
            chosen = random.Random(seed)
            pairs = [(chosen.choice(list(oracle.MAKERS)), chosen.randint(1, 5)) for _ in range(chosen.randint(1, 6))]
            begin = chosen.randint(-6, 6)
            self.check(pairs, begin, begin + chosen.randint(0, 8))

    def test_windows_that_begin_too_late_or_end_too_early(self):
        row = Row([Last(3), Limit(4), Delay(10)])
        self.assertEqual(count_pasts(row, [13, 17], 0, 4), 2)
        self.assertEqual(count_pasts(row, [13, 17], 1, 9), 0)
        self.assertEqual(count_pasts(row, [13, 17], 0, 3), 0)
        self.assertEqual(count_pasts(row, [13], 0, 0), 1)
        self.assertEqual(count_pasts(row, [13], 1, 5), 0)
        self.assertEqual(count_pasts(row, [13], -5, -1), 0)

    def test_no_times_at_all_come_from_the_stream_without_events_alone(self):
        for row in (Row([]), Row([Last(3)]), Row([First(HUGE), Delay(3)])):
            for begin, end in ((0, 5), (-3, -3), (0, 299), (5, 4), (5, -HUGE)):
                self.assertEqual(count_pasts(row, [], begin, end), 1)
                self.assertEqual(count_pasts(row, (), begin, end), 1)

    def test_windows_without_times(self):
        for end in (4, 3, -HUGE):
            self.assertEqual(count_pasts(Row([First(2)]), [4], 5, end), 0)
            self.assertEqual(count_pasts(Row([First(2)]), [5], 5, end), 0)

    def test_times_that_cannot_be_told(self):
        for member in (Last(5), First(5), Limit(5)):
            row = Row([First(2), member, Delay(5)])
            lag = normal_form(row).delay
            self.assertEqual(count_pasts(row, [lag, lag + 4], 0, 50), 0)
            self.assertEqual(count_pasts(row, [lag, lag + 5, lag + 9], 0, 50), 0)
            self.assertGreater(count_pasts(row, [lag, lag + 5, lag + 10], 0, 50), 0)

    def test_quiets_greater_than_the_window(self):
        for quiet in (8, 9, HUGE, 10 ** 59):
            self.assertEqual(count_pasts(Row([Last(quiet)]), [3 + quiet], 0, 7), 2 ** 3)
            self.assertEqual(count_pasts(Row([First(quiet)]), [3], 0, 7), 2 ** 4)
            self.assertEqual(count_pasts(Row([Limit(quiet)]), [3], 0, 7), 2 ** 4)
            self.assertEqual(count_pasts(Row([Last(quiet)]), [3 + quiet, 3 + 2 * quiet], 0, 7), 0)
        self.check([("first", 2), ("limit", HUGE)], 0, 7)
        self.check([("limit", 2), ("last", HUGE), ("first", HUGE + 1)], 0, 7)

    def test_three_hundred_times_and_one_more(self):
        self.assertEqual(count_pasts(Row([Last(HUGE)]), [HUGE + 299], 0, 299), 2 ** 299)
        self.assertEqual(count_pasts(Row([]), list(range(300)), 0, 299), 1)
        for begin, end, many in ((0, 300, 301), (-HUGE, HUGE, 2 * HUGE + 1), (5, 305, 301)):
            for times in ([], [7], [0, 1]):
                with self.assertRaises(Large) as caught:
                    count_pasts(Row([Last(2)]), times, begin, end)
                self.assertEqual(caught.exception.count, many)

    def test_far_from_zero(self):
        row = Row([First(3), Delay(HUGE)])
        self.assertEqual(count_pasts(row, [0, 5], -HUGE, 7 - HUGE), count_pasts(Row([First(3)]), [0, 5], 0, 7))

    def test_the_fact_of_the_factors(self):
        row = Row([Limit(2), Last(3), First(4)])
        lag = 3
        before = [count_pasts(row, [place + lag], 0, place) for place in range(8)]
        behind = [count_pasts(row, [lag], 0, place) for place in range(8)]
        between = [count_pasts(row, [lag, place + lag], 0, place) for place in range(4, 12)]
        self.assertEqual(count_pasts(row, [7 + lag, 11 + lag, 22 + lag], 0, 28),
                         before[7] * between[0] * between[7] * behind[6])

    def test_twenty_members_and_three_hundred_times_are_answered_soon(self):
        begin = time.monotonic()
        for kinds in ((Last,), (First,), (Limit,), (Last, First, Limit)):
            row = Row([kinds[place % len(kinds)](place + 2) for place in range(20)])
            lag = normal_form(row).delay
            self.assertGreater(count_pasts(row, [150 + lag], 0, 299), 0)
            self.assertGreater(count_pasts(row, [lag, 299 + lag], 0, 299), 0)
        self.assertLess(time.monotonic() - begin, 6)

    def test_the_counts_of_all_told_times_add_up_to_all_streams_of_a_window(self):
        begin = time.monotonic()
        row = Row([Last(2), First(3), Limit(5), Last(7), First(9), Limit(11), Last(12)])
        told = [[]] + [[one] for one in range(21, 43)]
        told += [[one, two] for one in range(21, 43) for two in range(one + 12, 43)]
        self.assertEqual(sum(count_pasts(row, times, 0, 21) for times in told), 2 ** 22)
        self.assertLess(time.monotonic() - begin, 1)

    def test_all_counts_add_up_also_for_other_rows_and_windows(self):
        for seed in range(40):
            chosen = random.Random(seed)
            kinds = chosen.choices((Last, First, Limit, Delay), k=chosen.randint(1, 6))
            row = Row([kind(chosen.randint(1, 12)) for kind in kinds])
            end = chosen.randint(0, 20)
            lag, least = normal_form(row).delay, max([1] + [quiet for _, quiet in normal_form(row).records])
            told = levels = [[]]
            while levels:
                levels = [times + [one] for times in levels
                          for one in range(times[-1] + least if times else lag, lag + end + 1)]
                told = told + levels
                if len(told) > 5000:
                    break
            if not levels:
                self.assertEqual(sum(count_pasts(row, times, 0, end) for times in told), 2 ** (end + 1))

    def test_small_windows_many_times_are_answered_soon(self):
        row = Row([Last(2), First(3), Limit(5), Last(7), First(9), Limit(11), Last(12)])
        begin = time.monotonic()
        for turn in range(3000):
            count_pasts(row, [21 + turn % 10], 0, 21)
        self.assertLess(time.monotonic() - begin, 1)
        begin = time.monotonic()
        for kinds in ((Last,), (First,), (Limit,), (Last, First, Limit)):
            for quiets in (range(2, 22), range(100, 300, 10)):
                row = Row([kinds[place % len(kinds)](quiet) for place, quiet in enumerate(quiets)])
                lag = normal_form(row).delay
                for times in ([150 + lag], [lag, 299 + lag]):
                    count_pasts(row, times, 0, 299)
        self.assertLess(time.monotonic() - begin, 1)

    def test_bad_streams_come_before_large(self):
        for end in (5, 300, HUGE):
            for times, place in ((None, -1), ("12", -1), (5, -1), ({}, -1), ([True], 0), ([0, None], 1), ((1, 1), 1),
                                 ([0, 1, 2, -1], 3), ([0, 1.0], 1)):
                with self.subTest(times=times), self.assertRaises(BadStream) as caught:
                    count_pasts(Row([Last(2)]), times, 0, end)
                self.assertEqual(caught.exception.place, place)


class CanTell(unittest.TestCase):

    def test_the_fact_on_all_streams_of_a_window(self):
        for pairs in ([("last", 3)], [("first", 2)], [("limit", 4)], [("last", 2), ("limit", 3)], [("delay", 2)], [],
                      [("first", 3), ("last", 4), ("limit", 2)], [("limit", 2), ("first", 3)]):
            row = oracle.made(pairs)
            lag = normal_form(row).delay
            counts = pasts_by_times(pairs, 0, 12)
            for times in subsets(range(3, 10)):
                shifted = tuple(time + lag for time in times)
                self.assertIs(can_tell(row, shifted), shifted in counts, (pairs, times))

    def test_gaps_just_below_and_at_the_greatest_quiet(self):
        for member in (Last(HUGE), First(HUGE), Limit(HUGE)):
            row = Row([Limit(5), member, Delay(3), Last(7)])
            self.assertIs(can_tell(row, [0, HUGE, 2 * HUGE]), True)
            self.assertIs(can_tell(row, (0, HUGE, 2 * HUGE - 1)), False)
            self.assertIs(can_tell(row, [0, HUGE - 1, 2 * HUGE]), False)

    def test_delays_and_quiets_of_one_ask_for_nothing(self):
        self.assertIs(can_tell(Row([Delay(9), Last(1), First(1), Limit(1)]), [0, 1, 2]), True)
        self.assertIs(can_tell(Row([]), list(range(2000))), True)

    def test_no_times_and_one(self):
        for row in (Row([]), Row([Last(HUGE)])):
            self.assertIs(can_tell(row, []), True)
            self.assertIs(can_tell(row, (-5,)), True)

    def test_bad_streams(self):
        for times, place in ((None, -1), ("12", -1), (5, -1), ({}, -1), ([True], 0), ([0, None], 1), ((1, 1), 1),
                             ([0, 1, 2, -1], 3)):
            with self.subTest(times=times), self.assertRaises(BadStream) as caught:
                can_tell(Row([Last(2)]), times)
            self.assertEqual(caught.exception.place, place)
