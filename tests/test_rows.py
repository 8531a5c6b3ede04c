"""[5] rows, what they tell, and for which events each told one speaks."""

import time
import unittest

from quietrows.errors import BadRow, BadStream
from quietrows.members import Delay, First, Last, Limit
from quietrows.rows import Row, Told, told_events, told_times
from tests import oracle

HUGE = 10 ** 59


def plain(events):
    return [(one.number, one.time, one.first, one.last) for one in events]


class RowsMade(unittest.TestCase):

    def index_of(self, members):
        with self.assertRaises(BadRow) as caught:
            Row(members)
        return caught.exception.index

    def test_members_are_kept_as_a_tuple(self):
        members = (Last(3), First(20), Limit(1), Delay(0))
        self.assertEqual(vars(Row(list(members))), {"members": members})
        self.assertEqual(vars(Row(members)), {"members": members})
        self.assertIs(type(Row(list(members)).members), tuple)
        self.assertEqual(Row([]).members, ())

    def test_what_is_no_list_or_tuple_gives_minus_one(self):
        for thing in (None, True, 0, "", "abc", b"ab", Last(3), Row([]), {}, {1: Last(3)}, iter([Last(3)])):
            with self.subTest(thing=thing):
                self.assertEqual(self.index_of(thing), -1)

    def test_the_first_element_that_is_no_member_gives_its_index(self):
        for thing in (None, True, 3, "last 3", ("last", 3), [Last(3)], Row([Last(3)]), Last, Told(0, 0, 0, 0)):
            for index in range(3):
                members = [Last(3), Delay(0), First(1)]
                members[index] = thing
                self.assertEqual(self.index_of(members), index)
                self.assertEqual(self.index_of(tuple(members) + (None,)), index)


class ToldOfStreams(unittest.TestCase):

    def test_a_row_without_members_tells_every_event_at_once(self):
        self.assertEqual(plain(told_events(Row([]), [-3, 0, 7])), [(0, -3, 0, 0), (1, 0, 1, 1), (2, 7, 2, 2)])
        self.assertEqual(told_times(Row([]), [-3, 0, 7]), [-3, 0, 7])

    def test_no_events_and_one_event(self):
        row = Row([Last(3), First(5), Limit(7), Delay(2)])
        self.assertEqual((told_events(row, []), told_times(row, ())), ([], []))
        self.assertEqual(plain(told_events(row, [-9])), [(0, -4, 0, 0)])

    def test_the_speaker_of_last_is_the_next_told_one(self):
        self.assertEqual(plain(told_events(Row([Last(3)]), [0, 1, 5, 7, 9, 20])),
                         [(1, 4, 0, 1), (4, 12, 2, 4), (5, 23, 5, 5)])

    def test_the_speaker_of_first_and_limit_is_the_last_told_one(self):
        self.assertEqual(plain(told_events(Row([First(3)]), [0, 2, 4, 7, 8])), [(0, 0, 0, 2), (3, 7, 3, 4)])
        self.assertEqual(plain(told_events(Row([Limit(3)]), [0, 2, 4, 7, 8])),
                         [(0, 0, 0, 1), (2, 4, 2, 2), (3, 7, 3, 4)])

    def test_the_speaker_of_delay_is_the_event_itself(self):
        self.assertEqual(plain(told_events(Row([Delay(3)]), [0, 2])), [(0, 3, 0, 0), (1, 5, 1, 1)])

    def test_the_speaker_of_a_row_goes_member_by_member(self):
        self.assertEqual(plain(told_events(Row([First(3), Last(9)]), [0, 2, 4, 7, 8, 30])),
                         [(3, 16, 0, 4), (5, 39, 5, 5)])
        self.assertEqual(plain(told_events(Row([Last(3), Limit(9)]), [0, 2, 4, 8, 10, 30])),
                         [(2, 7, 0, 4), (5, 33, 5, 5)])

    def test_each_member_gets_what_the_one_before_it_tells(self):
        stream = [0, 2, 3, 5]
        self.assertEqual(told_times(Row([Limit(2), Limit(3)]), stream), [0, 5])
        self.assertEqual(told_times(Row([Limit(3), Limit(2)]), stream), [0, 3])

    def test_equal_quiets_of_unlike_kinds_one_behind_the_other(self):
        stream = [0, 2, 5, 9, 10, 13]
        self.assertEqual(told_times(Row([Last(3), First(3), Limit(3)]), stream), [5, 8, 13, 16])
        self.assertEqual(told_times(Row([First(3), Last(3), Limit(3)]), stream), [3, 8, 12, 16])
        self.assertEqual(told_times(Row([Limit(3), Last(3), First(3)]), stream), [3, 8, 12, 16])

    def test_numbers_of_sixty_digits_and_negative_times(self):
        row = Row([Last(HUGE), Limit(HUGE + 1), Delay(HUGE)])
        self.assertEqual(plain(told_events(row, [-3 * HUGE, -2 * HUGE, 0, 1])),
                         [(0, -HUGE, 0, 1), (3, 2 * HUGE + 1, 2, 3)])

    def test_short_streams_as_the_document_tells_them(self):
        pairs = [(kind, quiet) for kind in ("last", "first", "limit") for quiet in (1, 2, 3)]
        rows = oracle.all_rows(pairs + [("delay", 0), ("delay", 4)], 2)
        rows += oracle.all_rows([("last", 2), ("first", 3), ("limit", 4), ("last", 4)], 4)
        streams = oracle.short_streams(4, 3) + [(-5, -3, -2, 2, 3, 6, 8, 12), (-9, -8, -6, -3, 1, 2, 4, 7, 11)]
        for pairs in rows:
            row = oracle.made(pairs)
            for stream in streams:
                expected = oracle.told(pairs, stream)
                self.assertEqual(plain(told_events(row, stream)), expected, (pairs, stream))
                self.assertEqual(told_times(row, stream), [one[1] for one in expected], (pairs, stream))

    def test_told_events_speak_for_stretches_that_together_are_the_whole_stream(self):
        row = Row([Limit(2), Last(3), First(4), Delay(1), Limit(9), Last(12)])
        stream = [place * place // 7 + place for place in range(200)]
        spoken = []
        for one in told_events(row, stream):
            self.assertTrue(one.first <= one.number <= one.last)
            spoken.extend(range(one.first, one.last + 1))
        self.assertEqual(spoken, list(range(200)))

    def test_twenty_members_on_two_thousand_events(self):
        kinds = (Last, First, Limit)
        row = Row([kinds[place % 3](place + 1) for place in range(18)] + [Delay(5), Last(40)])
        stream = [place * 7 + place * place % 11 for place in range(2000)]
        begin = time.monotonic()
        events = told_events(row, stream)
        self.assertLess(time.monotonic() - begin, 3)
        self.assertEqual([one.time for one in events], told_times(row, stream))
        self.assertEqual((events[0].first, events[-1].last), (0, 1999))

    def test_both_raise_bad_stream_with_the_place(self):
        for call in (told_events, told_times):
            for row in (Row([]), Row([Last(3)])):
                for stream, place in ((None, -1), ("12", -1), (5, -1), ({}, -1), ([True], 0), ([0, None], 1),
                                      ((1, 2, "3"), 2), ([1, 1], 1), ([0, 1, 2, -1], 3)):
                    with self.subTest(call=call, stream=stream), self.assertRaises(BadStream) as caught:
                        call(row, stream)
                    self.assertEqual(caught.exception.place, place)
