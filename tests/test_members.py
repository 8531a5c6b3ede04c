"""[3] streams and [4] members."""

import unittest

from quietrows.errors import BadMember, BadStream
from quietrows.members import Delay, First, Last, Limit, check_stream
from quietrows.rows import Row, told_times

HUGE = 10 ** 59
NO_NUMBERS = (True, False, None, "", "3", 3.0, b"3", [3], (3,), {3: 3})
NO_LISTINGS = (None, True, 3, "", "123", b"", range(3), {}, {1, 2}, {1: 2}, iter([1]), iter(()))


class CheckStream(unittest.TestCase):

    def place_of(self, stream):
        with self.assertRaises(BadStream) as caught:
            check_stream(stream)
        return caught.exception.place

    def test_streams_give_none(self):
        for stream in ([], (), [0], (7,), [-3, 0, 1], (-HUGE, -1, HUGE), list(range(2000))):
            self.assertIsNone(check_stream(stream))

    def test_what_is_no_list_or_tuple_gives_minus_one(self):
        for thing in NO_LISTINGS:
            with self.subTest(thing=thing):
                self.assertEqual(self.place_of(thing), -1)

    def test_what_is_no_number_gives_its_place(self):
        for thing in NO_NUMBERS:
            for place in range(3):
                for kind in (list, tuple):
                    stream = [-5, 0, 5]
                    stream[place] = thing
                    self.assertEqual(self.place_of(kind(stream)), place)

    def test_true_and_false_are_no_numbers_even_where_1_and_0_would_fit(self):
        self.assertEqual(self.place_of([False]), 0)
        self.assertEqual(self.place_of([0, True]), 1)
        self.assertEqual(self.place_of([-1, False, 1]), 1)

    def test_what_is_not_greater_than_that_before_gives_its_place(self):
        self.assertEqual(self.place_of([3, 3]), 1)
        self.assertEqual(self.place_of([3, 2]), 1)
        self.assertEqual(self.place_of((0, 1, 2, 2, 3)), 3)
        self.assertEqual(self.place_of([-1, -2]), 1)
        self.assertEqual(self.place_of([HUGE, HUGE - 1]), 1)
        self.assertEqual(self.place_of(list(range(1999)) + [1998]), 1999)

    def test_the_first_wrong_place_counts(self):
        self.assertEqual(self.place_of([1, 0, None]), 1)
        self.assertEqual(self.place_of([1, None, 0]), 1)
        self.assertEqual(self.place_of([None, 1, 0]), 0)
        self.assertEqual(self.place_of([0, 5, 3, 4]), 2)

    def test_a_time_is_compared_with_that_just_before_it(self):
        self.assertEqual(self.place_of([0, 10, 5]), 2)
        self.assertIsNone(check_stream([0, 10, 11]))


class MembersMade(unittest.TestCase):

    def wrong(self, make, value):
        with self.assertRaises(BadMember) as caught:
            make(value)
        return caught.exception.what

    def test_quiets_are_kept(self):
        for make in (Last, First, Limit):
            for quiet in (1, 2, 300, HUGE):
                self.assertEqual(vars(make(quiet)), {"q": quiet})

    def test_delays_are_kept(self):
        for delay in (0, 1, 300, HUGE):
            self.assertEqual(vars(Delay(delay)), {"d": delay})

    def test_quiets_below_one_and_no_numbers_are_wrong(self):
        for make in (Last, First, Limit):
            for thing in (0, -1, -HUGE) + NO_NUMBERS:
                with self.subTest(make=make, thing=thing):
                    self.assertEqual(self.wrong(make, thing), "q")

    def test_delays_below_zero_and_no_numbers_are_wrong(self):
        for thing in (-1, -HUGE) + NO_NUMBERS:
            with self.subTest(thing=thing):
                self.assertEqual(self.wrong(Delay, thing), "d")


class WhatMembersTell(unittest.TestCase):
    """Gaps just below, at and above a quiet, for each kind of member."""

    def told(self, member, stream):
        return told_times(Row([member]), stream)

    def test_last(self):
        self.assertEqual(self.told(Last(5), [0, 4]), [9])
        self.assertEqual(self.told(Last(5), [0, 5]), [5, 10])
        self.assertEqual(self.told(Last(5), [0, 6]), [5, 11])
        self.assertEqual(self.told(Last(5), [0, 4, 8, 12, 17]), [17, 22])

    def test_first(self):
        self.assertEqual(self.told(First(5), [0, 4]), [0])
        self.assertEqual(self.told(First(5), [0, 5]), [0, 5])
        self.assertEqual(self.told(First(5), [0, 6]), [0, 6])

    def test_first_asks_for_the_event_before_whether_it_was_told_or_not(self):
        self.assertEqual(self.told(First(5), [0, 4, 8, 12, 17]), [0, 17])

    def test_limit(self):
        self.assertEqual(self.told(Limit(5), [0, 4]), [0])
        self.assertEqual(self.told(Limit(5), [0, 5]), [0, 5])
        self.assertEqual(self.told(Limit(5), [0, 6]), [0, 6])

    def test_limit_asks_for_the_last_event_that_it_told(self):
        self.assertEqual(self.told(Limit(5), [0, 4, 8, 12, 13, 17]), [0, 8, 13])

    def test_delay(self):
        self.assertEqual(self.told(Delay(0), [0, 1, 5]), [0, 1, 5])
        self.assertEqual(self.told(Delay(7), [-9, 1, 5]), [-2, 8, 12])

    def test_a_quiet_of_one_tells_every_event(self):
        stream = [-2, -1, 0, 5]
        self.assertEqual(self.told(Last(1), stream), [-1, 0, 1, 6])
        self.assertEqual(self.told(First(1), stream), stream)
        self.assertEqual(self.told(Limit(1), stream), stream)

    def test_streams_without_events_and_with_one(self):
        for member, time in ((Last(9), 5), (First(9), -4), (Limit(9), -4), (Delay(9), 5)):
            self.assertEqual(self.told(member, []), [])
            self.assertEqual(self.told(member, [-4]), [time])

    def test_numbers_of_sixty_digits_and_negative_times(self):
        stream = [-HUGE, -1, HUGE - 1, 3 * HUGE]
        self.assertEqual(self.told(Last(HUGE), stream), [HUGE - 1, 2 * HUGE - 1, 4 * HUGE])
        self.assertEqual(self.told(First(HUGE), stream), [-HUGE, HUGE - 1, 3 * HUGE])
        self.assertEqual(self.told(Limit(HUGE), stream), [-HUGE, HUGE - 1, 3 * HUGE])
        self.assertEqual(self.told(Delay(HUGE), stream), [0, HUGE - 1, 2 * HUGE - 1, 4 * HUGE])
