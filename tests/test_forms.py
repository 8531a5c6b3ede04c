"""[6] normal forms, [7] the first fact and [9] containment."""

import unittest

from quietrows.errors import BadForm, Mixed
from quietrows.forms import Normal, idle_members, is_contained, normal_form, row_of, same_rows
from quietrows.members import Delay, First, Last, Limit
from quietrows.rows import Row, Told, told_events, told_times
from tests import oracle

HUGE = 10 ** 59


def parts(form):
    return form.records, form.delay


class NormalForms(unittest.TestCase):

    def check(self, members, records, delay, idle):
        row = Row(members)
        self.assertEqual(parts(normal_form(row)), (records, delay))
        self.assertEqual(idle_members(row), idle)

    def test_rows_without_records(self):
        self.check([], (), 0, [])
        self.check([Delay(0)], (), 0, [0])
        self.check([Delay(4), Delay(5)], (), 9, [0, 1])
        self.check([First(1), Limit(1)], (), 0, [0, 1])

    def test_a_quiet_of_one_is_no_record_but_delays_for_last(self):
        self.check([Last(1), Last(1), Delay(3)], (), 5, [0, 1, 2])
        self.check([Last(1), Limit(2)], (("limit", 2),), 1, [0])

    def test_a_quiet_of_two_is_a_record(self):
        self.check([Last(2)], (("last", 2),), 2, [])
        self.check([First(2)], (("first", 2),), 0, [])
        self.check([Limit(2)], (("limit", 2),), 0, [])

    def test_records_are_greater_than_all_before_them(self):
        self.check([Last(9), First(2), Limit(8), First(10), Last(9), Limit(11)],
                   (("last", 9), ("first", 10), ("limit", 11)), 18, [1, 2, 4])
        self.check([First(5), Limit(4), Last(5), Last(6)], (("first", 5), ("last", 6)), 11, [1, 2])

    def test_equal_quiets_of_unlike_kinds_keep_the_first(self):
        self.check([Last(3), First(3), Limit(3)], (("last", 3),), 3, [1, 2])
        self.check([First(3), Last(3), Limit(3)], (("first", 3),), 3, [1, 2])
        self.check([Limit(3), Last(3), First(3)], (("limit", 3),), 3, [1, 2])

    def test_delays_do_not_count_as_quiets(self):
        self.check([Delay(100), Last(3), Delay(50), First(4)], (("last", 3), ("first", 4)), 153, [0, 2])

    def test_numbers_of_sixty_digits(self):
        self.check([Last(HUGE), First(HUGE), Limit(HUGE + 1), Delay(HUGE)],
                   (("last", HUGE), ("limit", HUGE + 1)), 2 * HUGE, [1, 3])

    def test_twenty_members(self):
        self.check([Last(quiet) for quiet in range(20, 0, -1)], (("last", 20),), 210, list(range(1, 20)))
        self.check([First(quiet) for quiet in range(1, 21)],
                   tuple([("first", quiet) for quiet in range(2, 21)]), 0, [0])

    def test_a_normal_asks_nothing_of_its_parts(self):
        for records, delay in ((None, None), ("abc", -1), ((("mid", 0),), True), (5, "x"), ((), 2)):
            self.assertEqual(parts(Normal(records, delay)), (records, delay))


class RowsOfForms(unittest.TestCase):

    def test_the_records_alone_if_the_delay_is_that_of_their_last(self):
        self.assertEqual(row_of(Normal((), 0)), Row([]))
        self.assertEqual(row_of(Normal((("first", 2), ("limit", 3)), 0)), Row([First(2), Limit(3)]))
        self.assertEqual(row_of(Normal((("last", 2), ("first", 3), ("last", 7)), 9)),
                         Row([Last(2), First(3), Last(7)]))

    def test_a_delay_with_the_difference_at_the_end(self):
        self.assertEqual(row_of(Normal((), 1)), Row([Delay(1)]))
        self.assertEqual(row_of(Normal((("first", 2),), 4)), Row([First(2), Delay(4)]))
        self.assertEqual(row_of(Normal((("last", 2), ("limit", 3)), 7)), Row([Last(2), Limit(3), Delay(5)]))
        self.assertEqual(row_of(Normal((("last", HUGE),), 3 * HUGE)), Row([Last(HUGE), Delay(2 * HUGE)]))

    def test_lists_are_as_good_as_tuples(self):
        self.assertEqual(row_of(Normal([["last", 2], ("first", 3)], 3)), Row([Last(2), First(3), Delay(1)]))

    def test_going_there_and_back(self):
        rows = oracle.all_rows([(kind, quiet) for kind in ("last", "first", "limit") for quiet in (1, 2, 3)]
                               + [("delay", 0), ("delay", 2)], 3)
        for pairs in rows:
            form = normal_form(oracle.made(pairs))
            self.assertEqual(normal_form(row_of(form)), form, pairs)
            self.assertTrue(same_rows(row_of(form), oracle.made(pairs)))

    def test_forms_of_no_row(self):
        wrong = [
            Normal((), -1), Normal((("last", 3),), 2), Normal((("last", 3), ("last", 4)), 6),
            Normal((("last", 1),), 1), Normal((("first", 0),), 0), Normal((("limit", -2),), 0),
            Normal((("first", 3), ("first", 3)), 0), Normal((("first", 3), ("limit", 2)), 0),
            Normal((("first", 2), ("limit", 4), ("first", 3)), 0), Normal((("last", 3), ("first", 3)), 3),
            Normal((("delay", 3),), 3), Normal((("Last", 3),), 3), Normal((("", 3),), 3), Normal(((3, "last"),), 3),
            Normal((("first", True),), 0), Normal((("first", None),), 0), Normal((("first", "2"),), 0),
            Normal((("first", 2.0),), 0), Normal(((None, 2),), 0), Normal((("first", (2,)),), 0),
            Normal((("first",),), 0), Normal((("first", 2, 3),), 0), Normal(((),), 0), Normal(("first", 2), 0),
            Normal(("f2",), 0), Normal((None,), 0), Normal((First(2),), 0), Normal(([["first"], 2],), 0),
            Normal((), True), Normal((), False), Normal((), None), Normal((), "0"), Normal((), 0.0), Normal((), [0]),
            Normal(None, 0), Normal(3, 0), Normal("", 0), Normal("abc", 0), Normal({}, 0), Normal(True, 0),
            Normal({("first", 2): 1}, 0), Normal(Normal((), 0), 0),
        ]
        for form in wrong:
            with self.subTest(parts=parts(form)), self.assertRaises(BadForm):
                row_of(form)

    def test_what_is_no_normal_form_at_all(self):
        for thing in (None, True, 0, "", "last 3", (), [], ((), 0), [[], 0], Row([]), Last(3), {}):
            with self.subTest(thing=thing), self.assertRaises(BadForm):
                row_of(thing)


class SameRows(unittest.TestCase):

    def test_the_same(self):
        for row, other in (([], []), ([], [Delay(0)]), ([], [First(1), Limit(1)]), ([Last(1)], [Delay(1)]),
                           ([Last(3), Last(3)], [Delay(3), Last(3)]), ([Limit(4), First(3)], [Limit(4)]),
                           ([Last(3), Last(2)], [Last(3), Delay(2)]), ([Delay(2), First(5)], [First(5), Delay(2)]),
                           ([Last(HUGE), Limit(HUGE)], [Last(HUGE), First(HUGE), Limit(2)])):
            self.assertIs(same_rows(Row(row), Row(other)), True)
            self.assertIs(same_rows(Row(other), Row(row)), True)

    def test_not_the_same(self):
        for row, other in (([], [Delay(1)]), ([First(2)], [Limit(2)]), ([First(2)], [First(3)]),
                           ([Last(3)], [First(3), Delay(3)]), ([Last(3)], [Last(3), Delay(1)]),
                           ([Limit(2), Limit(3)], [Limit(3)]), ([Last(2), Last(3)], [Delay(2), Last(3)]),
                           ([First(2), Last(3)], [Last(3), First(2)]), ([Last(HUGE)], [Last(HUGE - 1), Delay(1)])):
            self.assertIs(same_rows(Row(row), Row(other)), False)
            self.assertIs(same_rows(Row(other), Row(row)), False)

    def test_the_first_fact_on_short_streams(self):
        pairs = [(kind, quiet) for kind in ("last", "first", "limit") for quiet in (1, 2, 3)]
        rows = [oracle.made(pairs) for pairs in oracle.all_rows(pairs + [("delay", 0), ("delay", 2)], 2)]
        streams = oracle.short_streams(4, 4)
        tellings = [[[(one.number, one.time) for one in told_events(row, stream)] for stream in streams]
                    for row in rows]
        for row, telling in zip(rows, tellings):
            for other, other_telling in zip(rows, tellings):
                self.assertIs(same_rows(row, other), telling == other_telling)


class IdleMembers(unittest.TestCase):

    def test_all_of_them_can_be_left_out_or_be_delays(self):
        streams = oracle.short_streams(4, 4)
        pairs = [("last", 2), ("last", 3), ("first", 2), ("first", 3), ("limit", 2), ("limit", 4), ("delay", 1)]
        for chosen in oracle.all_rows(pairs, 3):
            row = oracle.made(chosen)
            idle = idle_members(row)
            lean = []
            for index, member in enumerate(row.members):
                if index not in idle:
                    lean.append(member)
                elif isinstance(member, (Last, Delay)):
                    lean.append(Delay(chosen[index][1]))
            for stream in streams[::7]:
                self.assertEqual(told_times(Row(lean), stream), told_times(row, stream), (chosen, stream))


class Contained(unittest.TestCase):

    def check(self, make, row, other, expected):
        self.assertIs(is_contained(Row([make(quiet) for quiet in row]), Row([make(quiet) for quiet in other])),
                      expected, (make, row, other))

    def test_rows_of_one_kind(self):
        for make in (Last, First):
            self.check(make, [], [], True)
            self.check(make, [9], [], True)
            self.check(make, [], [9], False)
            self.check(make, [9], [9], True)
            self.check(make, [9], [2, 9], True)
            self.check(make, [2, 9], [9], False)
            self.check(make, [9], [2, 10], False)
            self.check(make, [3, 9], [2], True)
            self.check(make, [2, 9], [2, 3, 9], True)
            self.check(make, [2, 3, 9], [2, 9], False)
            self.check(make, [2, 9, 11], [2, 3, 5, 10], False)
            self.check(make, [2, 10, 11], [2, 3, 5, 10], True)
            self.check(make, [2, 3], [2, 3, 4], False)
            self.check(make, [2, 3, 4], [2, 3], True)
            self.check(make, [HUGE], [2, HUGE], True)
            self.check(make, [HUGE - 1], [2, HUGE], False)

    def test_only_records_count(self):
        self.assertIs(is_contained(Row([Last(9), First(9), Limit(3)]), Row([Limit(1), Last(2), Last(9)])), True)
        self.assertIs(is_contained(Row([First(9), Last(4)]), Row([First(2), Limit(2)])), True)

    def test_delays_do_not_matter(self):
        self.assertIs(is_contained(Row([Last(9)]), Row([Delay(50), Last(9)])), True)
        self.assertIs(is_contained(Row([Delay(50), Last(2)]), Row([Last(2), Delay(1)])), True)
        self.assertIs(is_contained(Row([Last(1), First(2)]), Row([Delay(7)])), True)

    def test_the_fact_on_short_streams(self):
        streams = oracle.short_streams(5, 5)
        for kind in ("last", "first"):
            rows = [[(kind, quiet) for quiet in (2, 3, 4) if quiet in chosen]
                    for chosen in ((), (2,), (3,), (4,), (2, 3), (2, 4), (3, 4), (2, 3, 4))]
            tellings = [[{one.number for one in told_events(oracle.made(row), stream)} for stream in streams]
                        for row in rows]
            for row, telling in zip(rows, tellings):
                for other, other_telling in zip(rows, tellings):
                    expected = all(few <= many for few, many in zip(telling, other_telling))
                    self.assertIs(is_contained(oracle.made(row), oracle.made(other)), expected, (row, other))

    def test_records_that_are_not_of_one_kind(self):
        for row, other in (([Limit(3)], []), ([], [Limit(3)]), ([Limit(3)], [Limit(3)]), ([Last(3)], [First(3)]),
                           ([First(3)], [Last(3)]), ([Last(2), First(3)], []), ([], [First(2), Last(3)]),
                           ([Last(2)], [Last(2), Limit(3)]), ([First(2), Limit(9)], [First(2)]),
                           ([Last(2), Last(3)], [Last(2), First(3)])):
            with self.subTest(row=[vars(one) for one in row]), self.assertRaises(Mixed):
                is_contained(Row(row), Row(other))

    def test_members_that_are_no_records_do_not_mix(self):
        self.assertIs(is_contained(Row([Last(3), Limit(3), First(2)]), Row([Limit(1), First(1), Last(3)])), True)
        self.assertIs(is_contained(Row([Limit(1)]), Row([First(1)])), True)


class ToldAndNormalAreNeverEqual(unittest.TestCase):

    def test_unlike_classes(self):
        self.assertNotEqual(Normal((), 0), Told(0, 0, 0, 0))
