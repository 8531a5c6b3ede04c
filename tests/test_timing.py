"""[20] the timers that rows set, stop and let ring."""

import random
import time
import unittest

from quietrows.errors import BadStream
from quietrows.far import train_told
from quietrows.forms import normal_form, row_of
from quietrows.members import Delay, First, Last, Limit
from quietrows.rows import Row
from quietrows.timing import Timers, row_timers, train_timers
from quietrows.trains import Train, amount_of, train_events
from tests import oracle

KINDS = ("last", "first", "limit", "delay")
HUGE = 10 ** 30


def timers_by_clock(pairs, stream):
    """Walk through each Last with one timer that is set anew at each event."""
    found = []
    events = list(enumerate(stream))
    for index, (kind, quiet) in enumerate(pairs):
        if kind == "last":
            started = stopped = rung = 0
            due = None
            for _, event in events:
                if due is not None:
                    stopped += event < due
                    rung += event >= due
                due = event + quiet
                started += 1
            rung += due is not None
            found.append(Timers(index, started, stopped, rung))
        events, _ = oracle.passed(kind, quiet, events)
    return found


def some_pairs(chosen, most, greatest):
    made = [chosen.choice(KINDS + ("last",)) for _ in range(chosen.randint(0, most))]
    return [(kind, chosen.randint(0 if kind == "delay" else 1, greatest)) for kind in made]


def some_train(chosen):
    gaps = [[chosen.randint(1, 9) for _ in range(chosen.randint(0, 4))] for _ in range(3)]
    return Train(chosen.randint(-9, 9), gaps[0], gaps[1], chosen.randint(0, 6), gaps[2])


class RowTimers(unittest.TestCase):

    def test_held_against_an_own_clock(self):
        for seed in range(600):
            chosen = random.Random(seed)
            pairs = some_pairs(chosen, 7, 9)
            stream = [chosen.randint(-5, 5)]
            for _ in range(chosen.randint(0, 30)):
                stream.append(stream[-1] + chosen.randint(1, 9))
            self.assertEqual(row_timers(oracle.made(pairs), stream), timers_by_clock(pairs, stream), (pairs, stream))

    def test_idle_lasts_set_timers_too(self):
        row = Row([Last(5), Last(3), Delay(2), Last(1), Last(5)])
        self.assertEqual(row_timers(row, [0, 4, 9]),
                         [Timers(0, 3, 1, 2), Timers(1, 2, 0, 2), Timers(3, 2, 0, 2), Timers(4, 2, 0, 2)])

    def test_a_gap_of_the_quiet_lets_a_timer_ring(self):
        self.assertEqual(row_timers(Row([Last(3)]), [0, 3, 5]), [Timers(0, 3, 1, 2)])

    def test_rows_without_a_last(self):
        for row in (Row([]), Row([First(3), Limit(5), Delay(1)])):
            self.assertEqual(row_timers(row, [0, 1, 9]), [])
            self.assertEqual(train_timers(row, Train(0, [1], [2], 3, [4])), [])

    def test_streams_without_events(self):
        for stream in ([], ()):
            self.assertEqual(row_timers(Row([Last(3), First(2), Last(9)]), stream),
                             [Timers(0, 0, 0, 0), Timers(2, 0, 0, 0)])

    def test_the_fact_that_the_row_of_the_normal_form_sets_the_fewest(self):
        for seed in range(150):
            chosen = random.Random(seed)
            row = oracle.made(some_pairs(chosen, 7, 6))
            stream = sorted(chosen.sample(range(80), 30))
            fewest = sum(one.started for one in row_timers(row_of(normal_form(row)), stream))
            self.assertLessEqual(fewest, sum(one.started for one in row_timers(row, stream)))

    def test_bad_streams(self):
        for stream, place in ((None, -1), ("12", -1), ([True], 0), ([0, None], 1), ((1, 1), 1)):
            for row in (Row([]), Row([Last(3)])):
                with self.assertRaises(BadStream) as caught:
                    row_timers(row, stream)
                self.assertEqual(caught.exception.place, place)

    def test_lists_are_new(self):
        row = Row([Last(3)])
        row_timers(row, [0]).clear()
        found = train_timers(row, Train(0, [], [], 0, []))
        found[0].rung = 9
        self.assertEqual(row_timers(row, [0]), [Timers(0, 1, 0, 1)])
        self.assertEqual(train_timers(row, Train(0, [], [], 0, [])), [Timers(0, 1, 0, 1)])


class TrainTimers(unittest.TestCase):

    def test_held_against_the_list_of_events(self):
        for seed in range(500):
            chosen = random.Random(seed)
            row, train = oracle.made(some_pairs(chosen, 6, 12)), some_train(chosen)
            self.assertEqual(train_timers(row, train), row_timers(row, train_events(train)), (vars(train)))

    def test_many_rounds(self):
        train = Train(0, [], [1, 5, 9], HUGE, [])
        self.assertEqual(train_timers(Row([Last(5)]), train), [Timers(0, 3 * HUGE + 1, HUGE, 2 * HUGE + 1)])
        self.assertEqual(train_timers(Row([Delay(2), Last(6), First(7), Last(10)]), train),
                         [Timers(1, 3 * HUGE + 1, 2 * HUGE, HUGE + 1), Timers(3, HUGE + 1, 1, HUGE)])
        self.assertEqual(train_timers(Row([Last(6), Last(16)]), train),
                         [Timers(0, 3 * HUGE + 1, 2 * HUGE, HUGE + 1), Timers(1, HUGE + 1, HUGE, 1)])
        self.assertEqual(train_timers(Row([Limit(15), Last(HUGE)]), train), [Timers(1, HUGE + 1, HUGE, 1)])

    def test_more_rounds_add_the_same_each_time(self):
        for seed in range(60):
            chosen = random.Random(seed)
            pairs = some_pairs(chosen, 5, 15)
            block = [chosen.randint(1, 9) for _ in range(3)]
            row = oracle.made(pairs)
            few = [train_timers(row, Train(0, [2], block, rounds, [7])) for rounds in (6000, 6000 + 2520, 6000 + 5040)]
            far = train_timers(row, Train(0, [2], block, 6000 + 2520 * HUGE, [7]))
            for one, two, three, last in zip(*few, far):
                if three.rung - two.rung == two.rung - one.rung:
                    self.assertEqual(last.started, one.started + HUGE * (two.started - one.started))
                self.assertEqual(last.started, last.stopped + last.rung)

    def test_what_rings_at_last_is_what_the_row_tells(self):
        for seed in range(60):
            chosen = random.Random(seed)
            row = oracle.made(some_pairs(chosen, 5, 15) + [("last", 4)])
            train = Train(0, [2], [3, 1, 7], HUGE + seed, [5])
            self.assertEqual(train_timers(row, train)[-1].rung, amount_of(train_told(row, train)))

    def test_the_bounds_are_answered_soon(self):
        chosen = random.Random(3)
        row = Row([(Last, First, Limit)[at % 3](at + 2) for at in range(20)])
        train = Train(0, [chosen.randint(1, 30) for _ in range(100)], [chosen.randint(1, 30) for _ in range(200)], HUGE,
                      [chosen.randint(1, 30) for _ in range(100)])
        begin = time.monotonic()
        self.assertEqual(len(train_timers(row, train)), 7)
        self.assertEqual(len(row_timers(row, list(range(2000)))), 7)
        self.assertEqual(len(train_timers(Row([Last(HUGE), Limit(2 * HUGE)]), train)), 1)
        self.assertLess(time.monotonic() - begin, 3)
        begin = time.monotonic()
        for _ in range(2000):
            row_timers(Row([First(2), Last(3)]), [0, 1, 5, 7])
            train_timers(Row([First(2), Last(3)]), Train(0, [1], [4, 2], 3, []))
        self.assertLess(time.monotonic() - begin, 2)
