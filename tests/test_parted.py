"""[8] trains that part two rows, exactly if these do not do the same."""

import random
import time
import unittest
from itertools import combinations, product
from unittest import mock

from quietrows.far import train_told
from quietrows.forms import Normal, normal_form, row_of, same_rows
from quietrows.members import Delay, First, Last, Limit
from quietrows.parted import parting
from quietrows.rows import Row, told_events
from quietrows.trains import Train, amount_of, event_at, train_events
from tests import oracle

HUGE = 10 ** 30
KINDS = (Last, First, Limit)


def telling(row, stream):
    return [(one.number, one.time) for one in told_events(row, stream)]


def with_delay(records, delay):
    """The row of these records whose whole delay is as told, so that delays part no rows."""
    return row_of(Normal(records, delay))


def far_telling(row, train):
    """The number of told events, and the times of those at both ends."""
    told = train_told(row, train)
    many = amount_of(told)
    places = list(range(min(many, 50))) + list(range(max(many - 50, 0), many))
    return many, [event_at(told, place) for place in places]


class Parting(unittest.TestCase):

    def check(self, row, other):
        """Hold what parting returns, both ways round, against the normal forms and what is told."""
        for one, two in ((row, other), (other, row)):
            train = parting(one, two)
            if normal_form(one) == normal_form(two):
                self.assertIsNone(train)
                continue
            self.assertIsInstance(train, Train)
            self.assertLessEqual(len(train.head) + len(train.block) + len(train.end), 20)
            if amount_of(train) <= 10000:
                stream = train_events(train)
                self.assertNotEqual(telling(one, stream), telling(two, stream))
            else:
                self.assertNotEqual(far_telling(one, train), far_telling(two, train))

    def check_records(self, records, others):
        """Check the two rows, also with delays that make them alike in their whole delay."""
        self.check(with_delay(records, lag(records)), with_delay(others, lag(others)))
        delay = max(lag(records), lag(others))
        self.check(with_delay(records, delay), with_delay(others, delay))

    def test_all_small_rows_against_one_of_each_normal_form(self):
        pairs = [(kind, quiet) for kind in ("last", "first", "limit") for quiet in (1, 2, 3, 4)]
        rows = [oracle.made(chosen) for chosen in oracle.all_rows(pairs, 3)]
        forms = [(normal_form(row).records, normal_form(row).delay) for row in rows]
        samples = dict(zip(forms, rows))
        parted = {}
        for row, form in zip(rows, forms):
            for other_form, other in samples.items():
                for train in (parting(row, other), parting(other, row)):
                    if form == other_form:
                        self.assertIsNone(train)
                        continue
                    key = (form, other_form, train.head, train.block, train.rounds, train.end)
                    if key not in parted:
                        self.assertLessEqual(len(train.head) + len(train.block) + len(train.end), 20)
                        stream = train_events(train)
                        parted[key] = telling(row, stream) != telling(other, stream)
                    self.assertTrue(parted[key], key)

    def test_all_pairs_of_rows_of_up_to_two_members(self):
        pairs = [(kind, quiet) for kind in ("last", "first", "limit") for quiet in (1, 2, 3, 4)]
        for row, other in product([oracle.made(chosen) for chosen in oracle.all_rows(pairs, 2)], repeat=2):
            self.check(row, other)

    def test_all_pairs_of_records_with_one_delay(self):
        rows = [tuple(zip(kinds, quiets)) for many in range(4) for quiets in combinations((2, 3, 4, 6), many)
                for kinds in product(("last", "first", "limit"), repeat=many)]
        for records, others in combinations(rows, 2):
            self.check(with_delay(records, 15), with_delay(others, 15))

    def test_rows_with_delays(self):
        pairs = [("last", 1), ("last", 3), ("first", 2), ("limit", 3), ("delay", 0), ("delay", 2)]
        rows = [oracle.made(chosen) for chosen in oracle.all_rows(pairs, 2)]
        for row, other in product(rows, repeat=2):
            self.check(row, other)

    def test_rows_that_differ_in_the_delay_alone(self):
        members = [make(quiet) for quiet, make in zip(range(2, 20), KINDS * 6)]
        for delay in (1, 5, HUGE):
            self.check(Row(members), Row(members + [Delay(delay)]))
            self.check(Row([Delay(delay)] + members), Row(members + [Delay(2 * delay)]))
            self.assertIsNone(parting(Row([Delay(delay)] + members), Row(members + [Delay(delay)])))
        self.check(Row([]), Row([Delay(1)]))

    def test_pairs_that_differ_in_one_member_alone(self):
        for seed in range(60):
            chosen = random.Random(seed)
            top = chosen.choice((21, 40, 10 ** 4, HUGE))
            quiets = sorted(chosen.sample(range(2, top) if top < HUGE else range(HUGE, HUGE + 99), 19))
            kinds = chosen.choice((("last", "first", "limit"), ("last",), ("first",), ("limit",), ("first", "limit")))
            records = [(chosen.choice(kinds), quiet) for quiet in quiets]
            for place in (0, 1, 9, 17, 18):
                for others in changed_at(records, place):
                    self.check_records(records, others)

    def test_twenty_records_each(self):
        for seed in range(12):
            chosen = random.Random(seed)
            grows = chosen.choice((2, 3, 5))
            # Such quiets grow so fast that nearly each record behind must be kept from undoing the difference.
            common = [grows ** place + chosen.randint(0, 1) for place in range(3, 22)]
            for kinds in (("last", "first", "limit"), ("last",), ("first",), ("limit",), ("first", "limit")):
                behind = [(chosen.choice(kinds), quiet) for quiet in common]
                for one, two in combinations([("last", 2), ("first", 2), ("limit", 2), ("last", 3), ("limit", 4)], 2):
                    self.check_records([one] + behind, [two] + behind)
                    self.check_records([one] + behind, behind)

    def test_rows_that_calls_have_returned_with_more_members(self):
        for seed in range(6):
            chosen = random.Random(seed)
            common = [2 ** place + chosen.randint(0, 1) for place in range(3, (22, 23, 24, 25, 60, 61)[seed])]
            for kinds in (("last", "first", "limit"), ("last",), ("first",), ("limit",), ("limit", "limit", "first"),
                          ("first", "limit"), ("limit",) * 30 + ("last",), ("limit",) * 30 + ("first",)):
                behind = [(chosen.choice(kinds), quiet) for quiet in common]
                for one, two in combinations([("last", 3), ("first", 3), ("limit", 3), ("last", 4)], 2):
                    self.check_records([one] + behind, [two] + behind)
                    self.check_records([one] + behind, behind)

    def test_common_quiets_as_great_as_the_stream_so_far(self):
        kinds = ("last", "first", "limit")
        for quiets in ((2, 3, 4, 5), (3, 4, 5, 6), (2, 3, 4, 6, 7)):
            for chosen in product(kinds, repeat=len(quiets)):
                records = list(zip(chosen, quiets))
                self.check_records(records, records[1:])
                for kind in kinds:
                    self.check_records(records, [(kind, quiets[0])] + records[1:])

    def test_long_trains_part_short_rows_too(self):
        # Rounds stand for gaps as soon as two would be put ahead or behind, not only from twenty on.
        with mock.patch("quietrows.parted.MOST_GAPS", 2):
            for seed in range(4000):
                chosen = random.Random(seed)
                kinds = chosen.choice((("last", "first", "limit"), ("last",), ("first", "limit"), ("limit",),
                                       ("limit", "limit", "limit", "first"), ("limit", "limit", "limit", "last")))
                quiets = sorted(chosen.sample(range(2, chosen.choice((12, 20, 40))), chosen.randint(3, 9)))
                records = [(chosen.choice(kinds), quiet) for quiet in quiets]
                place = chosen.choice((0, 0, 1, 2))
                others = chosen.choice(changed_at(records, place))
                delay = max(lag(records), lag(others))
                row, other = with_delay(records, delay), with_delay(others, delay)
                self.check(row, other)
                train = parting(row, other)
                self.assertTrue(train is None or len(train.head) + len(train.block) + len(train.end) <= 3)

    def test_quiets_of_thirty_digits(self):
        for make, other in product(KINDS, repeat=2):
            self.check(Row([make(HUGE)]), Row([other(HUGE + 1)]))
            self.check(Row([make(HUGE)]), Row([other(HUGE)]))
            self.check(Row([make(2), other(HUGE)]), Row([other(HUGE), Delay(2)]))
            self.check(Row([make(HUGE - 1), other(HUGE)]), Row([other(HUGE)]))
            self.check(Row([make(10 ** 59), other(2)]), Row([other(2), make(10 ** 59)]))
            for last in KINDS:
                self.check(Row([make(2), other(3), last(HUGE)]), Row([other(3), last(HUGE)]))
                self.check(Row([make(2), other(HUGE), last(HUGE + 1)]), Row([other(HUGE), last(HUGE + 1)]))

    def test_members_that_are_no_records(self):
        self.assertIsNone(parting(Row([Last(5), First(3), Limit(5), Last(1)]), Row([Last(5), Delay(1)])))
        self.assertIsNone(parting(Row([First(1)] * 20), Row([])))
        self.check(Row([Last(5), First(3)]), Row([First(3), Last(5)]))

    def test_equal_arguments_give_equal_results(self):
        row, other = Row([Last(2), Limit(3)]), Row([First(2), Limit(3)])
        self.assertEqual(parting(row, other), parting(Row((Last(2), Limit(3))), Row((First(2), Limit(3)))))

    def test_it_is_found_soon(self):
        row = Row([make(HUGE + place) for place, make in enumerate(KINDS * 6)])
        other = Row([First(3)] + list(row.members))
        begin = time.monotonic()
        for _ in range(200):
            self.assertIs(same_rows(row, other), parting(row, other) is None)
        self.assertLess(time.monotonic() - begin, 3)


def lag(records):
    return sum(quiet for kind, quiet in records if kind == "last")


def changed_at(records, place):
    """The records with one of another kind, one with a quiet greater or less by one, one more and one less."""
    kind, quiet = records[place]
    found = [records[:place] + records[place + 1:]]
    found += [records[:place] + [(other, quiet)] + records[place + 1:] for other in ("last", "first", "limit")]
    for other_quiet in (quiet - 1, quiet + 1):
        for added in ("last", "first", "limit"):
            found.append(records[:place] + [(added, other_quiet)] + records[place:])
            found.append(records[:place + 1] + [(added, other_quiet)] + records[place + 1:])
        found.append(records[:place] + [(kind, other_quiet)] + records[place + 1:])
    return [others for others in found if are_records(others)]


def are_records(records):
    quiets = [quiet for _, quiet in records]
    return len(quiets) <= 20 and quiets == sorted(set(quiets)) and min(quiets) > 1
