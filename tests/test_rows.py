"""[5] rows, what they tell, and for which events each told one speaks."""

import random
import time
import unittest

from quietrows.errors import BadRow, BadStream
from quietrows.members import Delay, First, Last, Limit
from quietrows.rows import Row, Told, told_events, told_times
from tests import oracle

HUGE = 10 ** 59


def plain(events):
    return [(one.number, one.time, one.first, one.last) for one in events]


def long_stream(chosen, many, greatest):
    """A stream of so many events, with gaps up to the greatest one."""
    return summed([chosen.randint(1, greatest) for _ in range(many)])


def summed(gaps):
    times = []
    for gap in gaps:
        times.append(times[-1] + gap if times else -50)
    return times


class RowsMade(unittest.TestCase):

    def index_of(self, members):
        with self.assertRaises(BadRow) as caught:
            Row(members)
        return caught.exception.index

    def test_members_are_kept_as_a_tuple(self):
        members = (Last(3), First(20), Limit(1), Delay(0))
        self.assertEqual(vars(Row(list(members))), {"members": members})
        self.assertEqual(vars(Row(members)), {"members": members})
        self.assertIs(type(Row(list(members)).members), tuple)
        self.assertEqual(Row([]).members, ())

    def test_what_is_no_list_or_tuple_gives_minus_one(self):
        for thing in (None, True, 0, "", "abc", b"ab", Last(3), Row([]), {}, {1: Last(3)}, iter([Last(3)])):
            with self.subTest(thing=thing):
                self.assertEqual(self.index_of(thing), -1)

    def test_the_first_element_that_is_no_member_gives_its_index(self):
        for thing in (None, True, 3, "last 3", ("last", 3), [Last(3)], Row([Last(3)]), Last, Told(0, 0, 0, 0)):
            for index in range(3):
                members = [Last(3), Delay(0), First(1)]
                members[index] = thing
                self.assertEqual(self.index_of(members), index)
                self.assertEqual(self.index_of(tuple(members) + (None,)), index)


class ToldOfStreams(unittest.TestCase):

    def test_a_row_without_members_tells_every_event_at_once(self):
        self.assertEqual(plain(told_events(Row([]), [-3, 0, 7])), [(0, -3, 0, 0), (1, 0, 1, 1), (2, 7, 2, 2)])
        self.assertEqual(told_times(Row([]), [-3, 0, 7]), [-3, 0, 7])

    def test_no_events_and_one_event(self):
        row = Row([Last(3), First(5), Limit(7), Delay(2)])
        self.assertEqual((told_events(row, []), told_times(row, ())), ([], []))
        self.assertEqual(plain(told_events(row, [-9])), [(0, -4, 0, 0)])

    def test_the_speaker_of_last_is_the_next_told_one(self):
        self.assertEqual(plain(told_events(Row([Last(3)]), [0, 1, 5, 7, 9, 20])),
                         [(1, 4, 0, 1), (4, 12, 2, 4), (5, 23, 5, 5)])

    def test_the_speaker_of_first_and_limit_is_the_last_told_one(self):
        self.assertEqual(plain(told_events(Row([First(3)]), [0, 2, 4, 7, 8])), [(0, 0, 0, 2), (3, 7, 3, 4)])
        self.assertEqual(plain(told_events(Row([Limit(3)]), [0, 2, 4, 7, 8])),
                         [(0, 0, 0, 1), (2, 4, 2, 2), (3, 7, 3, 4)])

    def test_the_speaker_of_delay_is_the_event_itself(self):
        self.assertEqual(plain(told_events(Row([Delay(3)]), [0, 2])), [(0, 3, 0, 0), (1, 5, 1, 1)])

    def test_the_speaker_of_a_row_goes_member_by_member(self):
        self.assertEqual(plain(told_events(Row([First(3), Last(9)]), [0, 2, 4, 7, 8, 30])),
                         [(3, 16, 0, 4), (5, 39, 5, 5)])
        self.assertEqual(plain(told_events(Row([Last(3), Limit(9)]), [0, 2, 4, 8, 10, 30])),
                         [(2, 7, 0, 4), (5, 33, 5, 5)])

    def test_each_member_gets_what_the_one_before_it_tells(self):
        stream = [0, 2, 3, 5]
        self.assertEqual(told_times(Row([Limit(2), Limit(3)]), stream), [0, 5])
        self.assertEqual(told_times(Row([Limit(3), Limit(2)]), stream), [0, 3])

    def test_equal_quiets_of_unlike_kinds_one_behind_the_other(self):
        stream = [0, 2, 5, 9, 10, 13]
        self.assertEqual(told_times(Row([Last(3), First(3), Limit(3)]), stream), [5, 8, 13, 16])
        self.assertEqual(told_times(Row([First(3), Last(3), Limit(3)]), stream), [3, 8, 12, 16])
        self.assertEqual(told_times(Row([Limit(3), Last(3), First(3)]), stream), [3, 8, 12, 16])

    def test_numbers_of_sixty_digits_and_negative_times(self):
        row = Row([Last(HUGE), Limit(HUGE + 1), Delay(HUGE)])
        self.assertEqual(plain(told_events(row, [-3 * HUGE, -2 * HUGE, 0, 1])),
                         [(0, -HUGE, 0, 1), (3, 2 * HUGE + 1, 2, 3)])

    def test_short_streams_as_the_document_tells_them(self):
        pairs = [(kind, quiet) for kind in ("last", "first", "limit") for quiet in (1, 2, 3)]
        rows = oracle.all_rows(pairs + [("delay", 0), ("delay", 4)], 2)
        rows += oracle.all_rows([("last", 2), ("first", 3), ("limit", 4), ("last", 4)], 4)
        streams = oracle.short_streams(4, 3) + [(-5, -3, -2, 2, 3, 6, 8, 12), (-9, -8, -6, -3, 1, 2, 4, 7, 11)]
        for pairs in rows:
            row = oracle.made(pairs)
            for stream in streams:
                expected = oracle.told(pairs, stream)
                self.assertEqual(plain(told_events(row, stream)), expected, (pairs, stream))
                self.assertEqual(told_times(row, stream), [one[1] for one in expected], (pairs, stream))

    def test_told_events_speak_for_stretches_that_together_are_the_whole_stream(self):
        row = Row([Limit(2), Last(3), First(4), Delay(1), Limit(9), Last(12)])
        stream = [place * place // 7 + place for place in range(200)]
        spoken = []
        for one in told_events(row, stream):
            self.assertTrue(one.first <= one.number <= one.last)
            spoken.extend(range(one.first, one.last + 1))
        self.assertEqual(spoken, list(range(200)))

    def test_twenty_members_on_two_thousand_events(self):
        kinds = (Last, First, Limit)
        row = Row([kinds[place % 3](place + 1) for place in range(18)] + [Delay(5), Last(40)])
        stream = [place * 7 + place * place % 11 for place in range(2000)]
        begin = time.monotonic()
        events = told_events(row, stream)
        self.assertLess(time.monotonic() - begin, 3)
        self.assertEqual([one.time for one in events], told_times(row, stream))
        self.assertEqual((events[0].first, events[-1].last), (0, 1999))

    def test_the_quick_oracle_tells_what_the_slow_one_tells(self):
        for seed in range(300):
            chosen = random.Random(seed)
            pairs = [(chosen.choice(list(oracle.MAKERS)), chosen.randint(1, 9)) for _ in range(chosen.randint(0, 6))]
            stream = long_stream(chosen, chosen.randint(0, 30), 9)
            self.assertEqual(oracle.told_of_long(pairs, stream), oracle.told(pairs, stream))

    def test_both_raise_bad_stream_with_the_place(self):
        for call in (told_events, told_times):
            for row in (Row([]), Row([Last(3)])):
                for stream, place in ((None, -1), ("12", -1), (5, -1), ({}, -1), ([True], 0), ([0, None], 1),
                                      ((1, 2, "3"), 2), ([1, 1], 1), ([0, 1, 2, -1], 3)):
                    with self.subTest(call=call, stream=stream), self.assertRaises(BadStream) as caught:
                        call(row, stream)
                    self.assertEqual(caught.exception.place, place)


class LongRowsAndStreams(unittest.TestCase):
    """Rows of 20 members on streams of 1,500 to 2,000 events."""

    def check(self, pairs, stream):
        row = oracle.made(pairs)
        expected = oracle.told_of_long(pairs, stream)
        self.assertEqual(plain(told_events(row, stream)), expected)
        self.assertEqual(told_times(row, stream), [one[1] for one in expected])

    def test_members_of_all_kinds_idle_ones_and_records_mixed(self):
        for seed in range(40):
            chosen = random.Random(seed)
            greatest = chosen.choice((2, 5, 20, 100))
            pairs = [(chosen.choice(list(oracle.MAKERS)), chosen.randint(1, chosen.choice((3, greatest, 2 * greatest))))
                     for _ in range(20)]
            self.check(pairs, long_stream(chosen, chosen.randint(1500, 2000), greatest))

    def test_records_alone(self):
        for seed in range(20):
            chosen = random.Random(seed)
            kinds = chosen.choice((("last",), ("first",), ("limit",), ("last", "first", "limit")))
            pairs = [(chosen.choice(kinds), place + 2) for place in range(20)]
            self.check(pairs, long_stream(chosen, chosen.randint(1500, 2000), chosen.choice((3, 25, 200))))

    def test_records_that_each_drop_few_events(self):
        for kinds in (("last",), ("first",), ("limit",), ("last", "first", "limit"), ("limit", "last")):
            pairs = [(kinds[place % len(kinds)], place + 2) for place in range(20)]
            gaps = [place // 100 + 1 if place % 50 == 7 else 99 for place in range(2000)]
            self.check(pairs, summed(gaps))

    def test_idle_members_alone(self):
        for pairs in ([("last", 1)] * 20, [("first", 1), ("limit", 1), ("delay", 0), ("delay", 3)] * 5):
            self.check(pairs, list(range(2000)))
        self.assertEqual(told_times(Row([Last(1)] * 20), list(range(2000))), list(range(20, 2020)))

    def test_quiets_as_great_as_the_gaps_and_one_more(self):
        for kind in ("last", "first", "limit"):
            for place in (0, 10, 19):
                pairs = [(kind, 7)] * 20
                self.check(pairs, list(range(0, 14000, 7)))
                pairs[place] = (kind, 8)
                self.check(pairs, list(range(0, 14000, 7)))

    def test_two_hundred_calls_end_soon(self):
        stream = list(range(2000))
        mixed = [(Last, First, Limit, Delay)[place % 4](place % 7 + 1) for place in range(20)]
        for row in (Row([Last(1)] * 20), Row([Limit(1)] * 19 + [Last(2)]), Row(mixed)):
            for call in (told_times, told_events):
                begin = time.monotonic()
                for _ in range(200):
                    call(row, stream)
                self.assertLess(time.monotonic() - begin, 2)
