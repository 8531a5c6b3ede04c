"""[18] patience and late streams, [19] when events are certain, and live rows."""

import random
import time
import unittest
from itertools import product

from quietrows.errors import BadStream, NoBack, NoEvent, NotLater
from quietrows.live import Live, certain_at, late_stream, open_at, patience
from quietrows.members import Delay, First, Last, Limit, check_stream
from quietrows.rows import Row, told_events
from tests import oracle

KINDS = ("last", "first", "limit")
HUGE = 10 ** 30


def fates(pairs, stream, moment, beyond=0):
    """For each event that has come by a moment, the set of whether it is told, over all later events that matter."""
    row = oracle.made(pairs)
    known = [time for time in stream if time <= moment]
    found = [set() for _ in known]
    many = sum(quiet - 1 for kind, quiet in pairs if kind == "last") + 1 + beyond
    for bits in range(1 << many):
        later = [moment + 1 + at for at in range(many) if bits >> at & 1]
        told = {one.number for one in told_events(row, known + later)}
        for number, fate in enumerate(found):
            fate.add(number in told)
    return found


def one_moment_later(pairs, state, event):
    """What each member holds one moment later, and what the last one tells then.

    An event is None for none at all, True for the one that is asked for, and False for any other one.
    A Last holds for how long its timer still runs, and for which event; the others hold how long ago the event
    was that matters to them, but no longer than their quiet.
    """
    found = []
    for (kind, quiet), one in zip(pairs, state):
        if kind == "last":
            rings = one is not None and one[0] == 1
            out = one[1] if rings else None
            one = None if one is None or rings else (one[0] - 1, one[1])
            found.append(one if event is None else (quiet, event))
        else:
            since = min(one + 1, quiet)
            out = event if since == quiet else None
            found.append(0 if event is not None and (kind == "first" or since == quiet) else since)
        event = out
    return tuple(found), event


def holds_it(state):
    return any(isinstance(one, tuple) and one[1] for one in state)


def fate_by_moments(pairs, stream, moment, asked):
    """Whether the event at the time asked for is told, over all that may come: walked moment by moment."""
    state = tuple(None if kind == "last" else quiet for kind, quiet in pairs)
    for now in range(stream[0], moment + 1):
        state, out = one_moment_later(pairs, state, now == asked if now in stream else None)
        if out:
            return {True}
    found = set() if holds_it(state) else {False}
    states = {state} if holds_it(state) else set()
    while states and len(found) < 2:
        later = set()
        for state in states:
            for event in (None, False):
                after, out = one_moment_later(pairs, state, event)
                if out:
                    found.add(True)
                elif holds_it(after):
                    later.add(after)
                else:
                    found.add(False)
        states = later
    return found


def some_pairs(chosen, most, greatest):
    """Members, most of them records, with a patience that can be gone through."""
    while True:
        quiets = sorted(chosen.sample(range(2, greatest + 1), chosen.randint(1, most)))
        pairs = [(chosen.choice(KINDS + ("last",)), quiet) for quiet in quiets]
        if sum(quiet - 1 for kind, quiet in pairs if kind == "last") <= 8:
            return pairs


def with_idle_members(chosen, pairs):
    found = list(pairs)
    for _ in range(chosen.randint(0, 2)):
        at = chosen.randint(0, len(found))
        greatest = max([1] + [quiet for _, quiet in found[:at]])
        found.insert(at, chosen.choice((("delay", 3), ("last", 1), ("first", greatest), ("limit", greatest))))
    return found


def some_stream(chosen, most):
    times = [chosen.randint(-9, 9)]
    widest = chosen.choice((2, 4, 8))
    for _ in range(chosen.randint(0, most)):
        times.append(times[-1] + chosen.randint(1, widest))
    return times


def certain_by_fates(pairs, stream, number):
    moment = stream[number]
    while len(fates(pairs, stream, moment)[number]) > 1:
        moment += 1
    return moment


class Moments(unittest.TestCase):

    def check(self, pairs, stream, moment):
        found = [number for number, fate in enumerate(fates(pairs, stream, moment)) if len(fate) > 1]
        self.assertEqual(open_at(oracle.made(pairs), stream, moment), found, (pairs, stream, moment))

    def test_all_short_streams_of_small_rows(self):
        rows = [[(one, 2), (two, 3)] for one in KINDS for two in KINDS]
        rows += [[(one, 2), (two, 4)] for one in KINDS for two in KINDS] + [[(kind, 3)] for kind in KINDS]
        for pairs in rows:
            for stream in oracle.short_streams(4, 2)[1:]:
                for moment in range(stream[-1] - 1, stream[-1] + 6):
                    self.check(pairs, stream, moment)

    def test_some_rows_and_streams(self):
        for seed in range(900):
            chosen = random.Random(seed)
            pairs = some_pairs(chosen, 4, 7)
            stream = some_stream(chosen, 6)
            self.check(pairs, stream, chosen.randint(stream[0] - 1, stream[-1] + 9))
            self.check(pairs, stream, stream[-1] + chosen.randint(0, 3))

    def test_lasts_with_records_of_others_ahead_between_and_behind(self):
        for kinds in product(KINDS, repeat=3):
            pairs = [("last" if kind == "none" else kind, quiet) for kind, quiet in zip(kinds, (2, 3, 4))]
            for stream in ([0, 1, 3], [0, 2, 3, 5], [0, 3, 5, 6], [0, 2, 4, 6, 7]):
                for moment in range(stream[-1], stream[-1] + 7):
                    self.check(pairs, stream, moment)

    def test_quiets_one_behind_the_other_leave_no_chain_but_of_the_same_gaps(self):
        # Only chains of gaps of 2 and then of 3 can keep these open.
        for pairs in ([("first", 2), ("last", 3), ("last", 4)], [("limit", 3), ("last", 4), ("last", 5)],
                      [("first", 4), ("last", 5), ("first", 6)],
                      [("limit", 2), ("last", 3), ("limit", 4), ("last", 5)]):
            for seed in range(12):
                chosen = random.Random(seed)
                stream = some_stream(chosen, 5)
                for moment in range(stream[-1], stream[-1] + 5):
                    self.check(pairs, stream, moment)

    def check_by_moments(self, pairs, stream, moment):
        found = [number for number, event in enumerate(stream)
                 if event <= moment and len(fate_by_moments(pairs, stream, moment, event)) > 1]
        self.assertEqual(open_at(oracle.made(pairs), stream, moment), found, (pairs, stream, moment))

    def test_an_event_is_certain_as_no_other_one_can_be_told_at_one_moment(self):
        # If 3 is not told, the next event that the second member tells is at 5, 7, 9 .., and not at 6.
        row = Row([First(2), Last(3), First(6), Last(7)])
        self.assertEqual(open_at(row, [0, 3], 2), [0])
        self.assertEqual(open_at(row, [0, 3], 3), [])
        self.assertEqual(certain_at(row, [0, 3], 0), 3)
        for one, two in product(KINDS, repeat=2):
            for low, wide, quiet in product((2, 3), (1, 2), (4, 5, 6, 7, 8)):
                pairs = [(one, low), ("last", low + wide), (two, quiet + wide), ("last", quiet + wide + 1)]
                for gaps in ((3,), (4,), (5,), (6,), (3, 4), (5, 3), (7, 4)):
                    stream = [sum(gaps[:place]) for place in range(len(gaps) + 1)]
                    for moment in (stream[-1], stream[-1] + 1, stream[-1] + 2):
                        self.check_by_moments(pairs, stream, moment)

    def test_chains_of_gaps_that_cannot_end_everywhere(self):
        for low, wide in ((3, 1), (3, 2), (4, 1), (4, 2), (4, 3), (5, 2), (6, 3)):
            for kind in ("first", "limit"):
                for gap in (low + wide, low + wide + 1):
                    for quiet in range(gap + low + 1, gap + 4 * low):
                        pairs = [(kind, low), ("last", low + wide), ("first", quiet), ("last", quiet + 1)]
                        for moment in (gap + low - 1, gap + low):
                            self.check_by_moments(pairs, [0, gap], moment)

    def test_rows_of_greater_quiets_moment_by_moment(self):
        for seed in range(600):
            chosen = random.Random(seed)
            quiets = sorted(chosen.sample(range(2, 15), chosen.randint(2, 4)))
            if chosen.random() < 0.5:
                quiets = sorted(set(quiets) | {quiet + 1 for quiet in quiets})[:5]
            pairs = [(chosen.choice(KINDS + ("last",)), quiet) for quiet in quiets]
            stream = [0]
            for _ in range(chosen.randint(0, 4)):
                stream.append(stream[-1] + max(1, chosen.choice(quiets) + chosen.choice((-1, 0, 1))))
            self.check_by_moments(pairs, stream, stream[-1] + chosen.randint(0, 5))

    def test_an_event_is_certain_though_nobody_knows_which_of_two_others_is_told(self):
        # Of the last two events one is told, or a later one: in any case the first of three is not.
        many = 0
        for pairs in ([("last", 3), ("last", 6)], [("last", 2), ("last", 4), ("last", 5)],
                      [("last", 3), ("first", 4), ("last", 7)]):
            for stream in product(range(1, 6), repeat=2):
                stream = [0, stream[0], sum(stream)]
                found = fates(pairs, stream, stream[-1])
                if len(found[0]) == 1 and [len(fate) for fate in found[1:]] == [2, 2]:
                    many += 1
                    self.assertEqual(open_at(oracle.made(pairs), stream, stream[-1]), [1, 2])
                self.check(pairs, stream, stream[-1])
                self.check(pairs, stream, stream[-1] + 1)
        self.assertGreater(many, 5)

    def test_members_that_are_no_records_and_delays_do_not_matter(self):
        for seed in range(100):
            chosen = random.Random(seed)
            pairs = some_pairs(chosen, 3, 6)
            stream = some_stream(chosen, 6)
            row, other = oracle.made(pairs), oracle.made(with_idle_members(chosen, pairs))
            for moment in range(stream[0], stream[-1] + 9):
                self.assertEqual(open_at(other, stream, moment), open_at(row, stream, moment))
            for number in range(len(stream)):
                self.assertEqual(certain_at(other, stream, number), certain_at(row, stream, number))

    def test_moments_before_all_events_at_an_events_time_and_long_after(self):
        row = Row([Last(3), Last(5)])
        self.assertEqual(open_at(row, [], 7), [])
        self.assertEqual(open_at(row, [0, 2], -1), [])
        self.assertEqual(open_at(row, [0, 2], -HUGE), [])
        self.assertEqual(open_at(row, [0, 2], 0), [0])
        self.assertEqual(open_at(row, [0, 2], 1), [0])
        self.assertEqual(open_at(row, [0, 2], 2), [1])
        self.assertEqual(open_at(row, [0, 2], 5), [1])
        self.assertEqual(open_at(row, [0, 2], 6), [])
        self.assertEqual(open_at(row, [0, 2], HUGE), [])

    def test_what_comes_later_in_the_stream_is_not_known_earlier(self):
        row = Row([Last(5)])
        self.assertEqual(open_at(row, [0, 1], 0), [0])
        self.assertEqual(certain_at(row, [0, 1], 0), 1)
        self.assertEqual(certain_at(row, [0, 3], 0), 3)
        self.assertEqual(certain_at(row, [0, 4], 0), 4)
        self.assertEqual(certain_at(row, [0, 5], 0), 4)
        self.assertEqual(certain_at(row, [0, 99], 0), 4)

    def test_certain_at_by_all_later_events(self):
        for seed in range(250):
            chosen = random.Random(seed)
            pairs = some_pairs(chosen, 3, 6)
            stream = some_stream(chosen, 5)
            number = chosen.randrange(len(stream))
            self.assertEqual(certain_at(oracle.made(pairs), stream, number), certain_by_fates(pairs, stream, number),
                             (pairs, stream, number))

    def test_events_are_open_just_until_they_are_certain(self):
        for seed in range(150):
            chosen = random.Random(seed)
            row = oracle.made(some_pairs(chosen, 5, 9))
            stream = some_stream(chosen, 12)
            moments = [certain_at(row, stream, number) for number in range(len(stream))]
            for moment in range(stream[0] - 1, stream[-1] + 10):
                self.assertEqual(open_at(row, stream, moment),
                                 [number for number, time in enumerate(stream) if time <= moment < moments[number]])

    def test_the_third_fact(self):
        for seed in range(150):
            chosen = random.Random(seed)
            pairs = [(chosen.choice(KINDS), quiet) for quiet in sorted(chosen.sample(range(2, 60), 8))]
            row = oracle.made(pairs)
            lasts = len([1 for kind, _ in pairs if kind == "last"])
            stream = [0]
            for _ in range(40):
                stream.append(stream[-1] + chosen.choice(pairs)[1] - chosen.choice((0, 1, 1)))
            for number, event in enumerate(stream):
                self.assertTrue(event <= certain_at(row, stream, number) <= event + patience(row))
                self.assertLessEqual(len(open_at(row, stream, event)), lasts)

    def test_rows_of_patience_zero_are_certain_at_once(self):
        for row in (Row([]), Row([First(9), Limit(12)]), Row([First(4), Last(4), Last(1), Delay(5)])):
            self.assertEqual(patience(row), 0)
            for stream in ([0], [0, 1, 2, 9, 12], [-5, HUGE]):
                for number, event in enumerate(stream):
                    self.assertEqual(certain_at(row, stream, number), event)
                    self.assertEqual(open_at(row, stream, event), [])

    def test_far_from_zero(self):
        row = Row([Last(3), Last(6), Delay(HUGE)])
        self.assertEqual(certain_at(row, [-HUGE, 5 - HUGE, HUGE], 0), 7 - HUGE)
        self.assertEqual(open_at(row, (HUGE, HUGE + 5), HUGE + 6), [0, 1])

    def test_bad_arguments(self):
        row = Row([Last(3)])
        for stream, place in ((None, -1), ("12", -1), ([True], 0), ([0, None], 1), ((1, 1), 1)):
            for call in (lambda: certain_at(row, stream, None), lambda: certain_at(row, stream, 0),
                         lambda: open_at(row, stream, 0)):
                with self.assertRaises(BadStream) as caught:
                    call()
                self.assertEqual(caught.exception.place, place)
        for stream in ([], [0, 5], (0, 5)):
            for number in (2, -1, None, "0", True, False, HUGE, 0.0):
                with self.assertRaises(NoEvent) as caught:
                    certain_at(row, stream, number)
                self.assertIs(caught.exception.number, number)


class Patience(unittest.TestCase):

    def test_the_sum_over_the_lasts_that_are_records(self):
        for row, many in ((Row([]), 0), (Row([Last(3), First(4), Last(6)]), 7), (Row([Last(1)]), 0),
                          (Row([First(5), Last(5), Last(6), Delay(9), Last(6)]), 5), (Row([Last(HUGE)]), HUGE - 1),
                          (Row([Last(4), Last(3), Limit(9), Last(10)]), 12)):
            self.assertEqual(patience(row), many)

    def test_late_streams(self):
        for seed in range(120):
            chosen = random.Random(seed)
            pairs = some_pairs(chosen, 4, 7)
            row = oracle.made(with_idle_members(chosen, pairs))
            found = late_stream(row)
            if patience(row) == 0:
                self.assertIsNone(found)
                continue
            stream, number = found
            check_stream(stream)
            moment = stream[number] + patience(row) - 1
            self.assertLessEqual(stream[-1], moment)
            self.assertEqual(fates(pairs, stream, moment)[number], {True, False})
            self.assertIn(number, open_at(row, stream, moment))
            self.assertNotIn(number, open_at(row, stream, moment + 1))
            self.assertEqual(certain_at(row, stream, number), moment + 1)

    def test_late_streams_of_twenty_members(self):
        for kinds in ((Last,), (Last, First), (Limit, Last), (First, Last, Limit)):
            row = Row([kinds[at % len(kinds)](50 * at + 3) for at in range(20)])
            stream, number = late_stream(row)
            self.assertEqual(certain_at(row, stream, number), stream[number] + patience(row))

    def test_late_streams_are_new_each_time(self):
        row = Row([Last(3), Last(6)])
        found = late_stream(row)
        self.assertIs(type(found), tuple)
        self.assertIs(type(found[0]), list)
        kept = list(found[0])
        found[0].clear()
        self.assertEqual(late_stream(row), (kept, found[1]))

    def test_none_without_patience(self):
        for row in (Row([]), Row([First(9), Last(9)]), Row([Last(1), Delay(3), Limit(4)])):
            self.assertIsNone(late_stream(row))


class LiveRows(unittest.TestCase):

    def play(self, row, stream, waits):
        """Push and wait by turns, and hold what is returned against certain_at of the whole stream."""
        live = Live(row)
        told = {one.number for one in told_events(row, stream)}
        certain = [(certain_at(row, stream, number), number) for number in range(len(stream))]
        before = None
        for time_now in sorted(stream + waits):
            found = live.push(time_now) if time_now in stream and time_now != before else live.wait(time_now)
            self.assertEqual(found, [(number, number in told) for moment, number in sorted(certain,
                                                                                           key=lambda one: one[1])
                                     if moment <= time_now and (before is None or moment > before)])
            before = time_now
            self.assertEqual(live.moment_now(), time_now)
            self.assertEqual(live.open_events(), open_at(row, stream, time_now))
            self.assertEqual(live.so_far(), [(number, number in told) for number in range(len(stream))
                                             if certain[number][0] <= time_now])
        return live

    def test_pushes_and_waits_in_any_parts(self):
        for seed in range(300):
            chosen = random.Random(seed)
            row = oracle.made(with_idle_members(chosen, some_pairs(chosen, 5, 9)))
            stream = some_stream(chosen, 12)
            end = stream[-1] + patience(row)
            waits = [chosen.randint(stream[0] - 3, end + 3) for _ in range(chosen.randint(0, 9))] + [end]
            live = self.play(row, stream, waits)
            self.assertEqual(live.open_events(), [])
            self.assertEqual([number for number, is_told in live.so_far() if is_told],
                             [one.number for one in told_events(row, stream)])

    def test_waits_for_the_same_moment_twice(self):
        live = Live(Row([Last(3)]))
        self.assertEqual(live.wait(5), [])
        self.assertEqual(live.wait(5), [])
        self.assertEqual(live.push(6), [])
        self.assertEqual(live.wait(6), [])
        self.assertEqual(live.wait(8), [(0, True)])
        self.assertEqual(live.wait(8), [])
        self.assertEqual(live.moment_now(), 8)

    def test_refused_pushes_and_waits(self):
        live = Live(Row([Last(3)]))
        for call in (live.push, live.wait):
            for wrong in (None, "3", True, False, 1.0, [3]):
                with self.assertRaises(NotLater) as caught:
                    call(wrong)
                self.assertIs(caught.exception.time, wrong)
        self.assertIsNone(live.moment_now())
        live.push(4)
        for wrong in (4, 3, -HUGE, True, None):
            with self.assertRaises(NotLater) as caught:
                live.push(wrong)
            self.assertIs(caught.exception.time, wrong)
            self.assertEqual((live.moment_now(), live.open_events(), live.so_far()), (4, [0], []))
        for wrong in (3, -HUGE, True, "5", None):
            with self.assertRaises(NotLater):
                live.wait(wrong)
        self.assertEqual(live.wait(4), [])
        self.assertEqual(live.push(5), [(0, False)])
        live.wait(9)
        with self.assertRaises(NotLater):
            live.push(9)
        self.assertEqual(live.push(10), [])
        self.assertEqual(live.open_events(), [2])

    def test_at_first(self):
        live = Live(Row([Last(3)]))
        self.assertIsNone(live.moment_now())
        self.assertEqual((live.open_events(), live.so_far()), ([], []))
        with self.assertRaises(NoBack) as caught:
            live.undo()
        self.assertEqual(vars(caught.exception), {})
        self.assertEqual(live.push(-HUGE), [])
        self.assertEqual(live.moment_now(), -HUGE)

    def test_undo_of_everything_and_other_pushes(self):
        for seed in range(80):
            chosen = random.Random(seed)
            row = oracle.made(some_pairs(chosen, 5, 9))
            live, past = Live(row), []
            for _ in range(40):
                if past and chosen.random() < 0.4:
                    self.assertIsNone(live.undo())
                    self.assertEqual(self.state(live), past.pop())
                    continue
                past.append(self.state(live))
                now = chosen.randint(-5, 5) if live.moment_now() is None else live.moment_now()
                chosen.choice((live.push, live.push, live.wait))(now + chosen.randint(1, 6))
                with self.assertRaises(NotLater):
                    live.push(live.moment_now())
                with self.assertRaises(NotLater):
                    live.wait(live.moment_now() - 1)
            while past:
                live.undo()
                self.assertEqual(self.state(live), past.pop())
            with self.assertRaises(NoBack):
                live.undo()
            self.assertEqual(self.state(live), self.state(Live(row)))
            fresh = Live(row)
            self.assertEqual([live.push(one) for one in (0, 2, 5, 6)], [fresh.push(one) for one in (0, 2, 5, 6)])

    def state(self, live):
        return live.moment_now(), live.open_events(), live.so_far()

    def test_returned_lists_may_be_changed(self):
        live = Live(Row([Last(3)]))
        live.push(0).append(5)
        found = live.push(1)
        self.assertEqual(found, [(0, False)])
        found.clear()
        live.so_far().clear()
        live.open_events().clear()
        self.assertEqual((live.so_far(), live.open_events()), ([(0, False)], [1]))
        live.undo()
        self.assertEqual((live.so_far(), live.open_events()), ([], [0]))

    def test_two_live_rows_by_turns(self):
        row = Row([Last(3), Last(6)])
        one, two = Live(row), Live(row)
        self.assertEqual((one.push(0), two.push(0), one.push(5), two.push(7)), ([], [], [], [(0, True)]))
        self.assertEqual((one.wait(7), two.open_events(), one.open_events()), ([(0, False)], [1], [1]))

    def test_pairs_are_tuples_of_a_number_and_a_truth(self):
        live = Live(Row([Last(3), First(9)]))
        live.push(0)
        pair = live.wait(2)[0]
        self.assertIs(type(pair), tuple)
        self.assertEqual(repr(live.so_far()), "[(0, True)]")
        self.assertEqual(repr(live.push(6) + live.wait(9)), "[(1, False)]")


class Soon(unittest.TestCase):

    def test_two_thousand_events(self):
        chosen = random.Random(5)
        for quiets in (range(51, 1001, 50), range(2, 22), range(981, 1001)):
            for kinds in ((Last,), (Last, First, Limit)):
                row = Row([kinds[at % len(kinds)](quiet) for at, quiet in enumerate(list(quiets)[:20])])
                stream = [0]
                for _ in range(1999):
                    stream.append(stream[-1] + chosen.choice(list(quiets)) - 1)
                begin = time.monotonic()
                live = Live(row)
                for event in stream:
                    live.push(event)
                for _ in range(500):
                    live.undo()
                self.assertEqual(live.open_events(), open_at(row, stream[:1500], stream[1499]))
                for number in (0, 777, 1490):
                    self.assertEqual(certain_at(row, stream[:1500], number) <= live.moment_now(),
                                     number not in live.open_events())
                self.assertLess(time.monotonic() - begin, 5)

    def test_small_ones_many_times(self):
        begin = time.monotonic()
        row = Row([Last(3), Last(6)])
        for _ in range(2000):
            certain_at(row, [0, 5], 0)
            open_at(row, [0, 5], 5)
            live = Live(row)
            live.push(0)
            live.wait(4)
            live.undo()
        self.assertLess(time.monotonic() - begin, 3)
