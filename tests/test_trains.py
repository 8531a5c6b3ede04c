"""[11] trains: their parts, their amount, their events by number and by time, and their list."""

import random
import time
import unittest

from quietrows.errors import BadTrain, Large, NoEvent
from quietrows.trains import Train, amount_of, event_at, events_until, train_events

HUGE = 10 ** 30
NO_NUMBERS = (True, False, None, "", "3", 3.0, b"3", [3], (3,), {3: 3})
NO_LISTINGS = (None, True, 3, "", "12", b"", range(1, 3), {}, {1, 2}, {1: 2}, iter([1]))
PARAMETERS = ("first", "head", "block", "rounds", "end")


def listed(first, head, block, rounds, end):
    """The events of a train, gap by gap."""
    events = [first]
    for gap in list(head) + [gap for _ in range(rounds) for gap in block] + list(end):
        events.append(events[-1] + gap)
    return events


def some_parts(seed, most):
    chosen = random.Random(seed)
    gaps = [[chosen.randint(1, 4) for _ in range(chosen.randint(0, most))] for _ in range(3)]
    return chosen.randint(-5, 5), gaps[0], gaps[1], chosen.randint(0, 5), gaps[2]


class TrainsMade(unittest.TestCase):

    def what(self, *parts):
        with self.assertRaises(BadTrain) as caught:
            Train(*parts)
        return caught.exception.what

    def test_the_parts_are_kept_and_sequences_are_tuples(self):
        self.assertEqual(vars(Train(-3, [1, 2], (3,), 4, [])),
                         {"first": -3, "head": (1, 2), "block": (3,), "rounds": 4, "end": ()})
        self.assertEqual(vars(Train(HUGE, (HUGE,), [1], HUGE, [HUGE]))["rounds"], HUGE)

    def test_what_is_no_number_as_first_or_rounds(self):
        for thing in NO_NUMBERS:
            with self.subTest(thing=thing):
                self.assertEqual(self.what(thing, [], [], 0, []), "first")
                self.assertEqual(self.what(0, [], [], thing, []), "rounds")

    def test_rounds_below_zero(self):
        for rounds in (-1, -HUGE):
            self.assertEqual(self.what(0, [], [1], rounds, []), "rounds")
            self.assertEqual(self.what(0, [], [], rounds, []), "rounds")

    def test_gaps_that_are_no_sequences(self):
        for thing in NO_LISTINGS:
            with self.subTest(thing=thing):
                self.assertEqual(self.what(0, thing, [], 0, []), "head")
                self.assertEqual(self.what(0, [], thing, 0, []), "block")
                self.assertEqual(self.what(0, [], [], 0, thing), "end")

    def test_gaps_that_are_no_numbers_from_one_on(self):
        for gap in (0, -1, -HUGE) + NO_NUMBERS:
            for kind in (list, tuple):
                for place in range(3):
                    gaps = [5, 6, 7]
                    gaps[place] = gap
                    with self.subTest(gaps=gaps):
                        self.assertEqual(self.what(0, kind(gaps), [], 0, []), "head")
                        self.assertEqual(self.what(0, [], kind(gaps), 1, []), "block")
                        self.assertEqual(self.what(0, [], [], 0, kind(gaps)), "end")

    def test_a_block_that_never_comes_must_still_have_gaps_from_one_on(self):
        self.assertEqual(self.what(0, [], [0], 0, []), "block")

    def test_the_first_parameter_in_order_counts(self):
        wrong = {"first": None, "head": [0], "block": None, "rounds": -1, "end": [True]}
        right = {"first": 0, "head": [1], "block": [2], "rounds": 3, "end": []}
        for place, name in enumerate(PARAMETERS):
            for chosen in range(2 ** (4 - place)):
                parts = dict(right)
                parts[name] = wrong[name]
                for at, later in enumerate(PARAMETERS[place + 1:]):
                    if chosen >> at & 1:
                        parts[later] = wrong[later]
                self.assertEqual(self.what(*[parts[name] for name in PARAMETERS]), name)

    def test_trains_with_the_same_events_need_not_be_equal(self):
        self.assertNotEqual(Train(0, [1], [], 0, []), Train(0, [], [1], 1, []))
        self.assertNotEqual(Train(0, [], [], 0, []), Train(0, [], [], 1, []))
        self.assertEqual(Train(0, [1], [2], 3, [4]), Train(0, (1,), (2,), 3, (4,)))


class AskedOfTrains(unittest.TestCase):

    def check(self, *parts):
        train = Train(*parts)
        events = listed(*parts)
        self.assertEqual(train_events(train), events)
        self.assertEqual(amount_of(train), len(events))
        self.assertEqual([event_at(train, number) for number in range(len(events))], events)
        for moment in range(events[0] - 2, events[-1] + 3):
            expected = sum(event <= moment for event in events)
            self.assertEqual(events_until(train, moment), expected, (parts, moment))
        for number in (-1, -len(events), len(events), len(events) + 1):
            with self.assertRaises(NoEvent) as caught:
                event_at(train, number)
            self.assertEqual(caught.exception.number, number)

    def test_a_train_without_gaps(self):
        self.check(0, [], [], 0, [])
        self.check(-7, [], [], 0, [])

    def test_a_block_without_gaps(self):
        self.check(3, [], [], 5, [])
        self.check(3, [2, 1], [], 5, [4, 1])

    def test_no_rounds(self):
        self.check(3, [], [1, 2], 0, [])
        self.check(3, [2, 3], [1, 2], 0, [4])

    def test_events_before_at_between_and_behind_all_parts(self):
        self.check(0, [1], [5, 2], 3, [4])
        self.check(-20, [3, 2], [4], 4, [5, 2])
        self.check(0, [], [3, 2], 3, [])
        self.check(0, [], [2], 1, [3])
        self.check(0, [4], [3, 2], 3, [])
        self.check(0, [2, 2], [], 0, [])
        self.check(0, [], [], 0, [2, 2])

    def test_many_small_trains(self):
        for seed in range(200):
            self.check(*some_parts(seed, 4))

    def test_a_block_without_gaps_with_very_many_rounds(self):
        train = Train(3, [2], [], 10 ** 59, [4])
        self.assertEqual((amount_of(train), train_events(train)), (3, [3, 5, 9]))
        self.assertEqual([event_at(train, number) for number in range(3)], [3, 5, 9])
        self.assertEqual([events_until(train, moment) for moment in (2, 3, 4, 5, 8, 9, HUGE)], [0, 1, 1, 2, 2, 3, 3])

    def test_far_trains(self):
        train = Train(-HUGE, [HUGE], [HUGE, 1], HUGE, [7, HUGE])
        self.assertEqual(amount_of(train), 4 + 2 * HUGE)
        turn = HUGE + 1
        for number, event in ((0, -HUGE), (1, 0), (2, HUGE), (3, turn), (4, turn + HUGE), (2 * HUGE, HUGE * turn - 1),
                              (2 * HUGE + 1, HUGE * turn), (2 * HUGE + 2, HUGE * turn + 7),
                              (2 * HUGE + 3, HUGE * turn + 7 + HUGE)):
            self.assertEqual(event_at(train, number), event)
            self.assertEqual(events_until(train, event), number + 1)
            self.assertEqual(events_until(train, event - 1), number)
        self.assertEqual(events_until(train, HUGE ** 3), amount_of(train))
        self.assertEqual(events_until(train, -HUGE ** 3), 0)

    def test_numbers_of_no_event(self):
        for train in (Train(0, [1], [5, 2], 3, [4]), Train(0, [], [], 0, [])):
            many = amount_of(train)
            for number in (-1, -HUGE, many, many + 1, HUGE, True, False, None, "0", 0.0, [0], (0,)):
                with self.subTest(number=number), self.assertRaises(NoEvent) as caught:
                    event_at(train, number)
                self.assertIs(caught.exception.number, number)

    def test_ten_thousand_events_and_one_more(self):
        self.assertEqual(train_events(Train(5, [], [1], 9999, [])), list(range(5, 10005)))
        self.assertEqual(train_events(Train(5, [1] * 99, [1] * 99, 100, [])), list(range(5, 10005)))
        self.assertEqual(len(train_events(Train(5, [1] * 5000, [], HUGE, [2] * 4999))), 10000)
        for train, many in ((Train(5, [], [1], 10000, []), 10001), (Train(5, [1] * 5000, [], 0, [2] * 5000), 10001),
                            (Train(5, [], [1, 2], HUGE, [3]), 2 * HUGE + 2)):
            with self.assertRaises(Large) as caught:
                train_events(train)
            self.assertEqual(caught.exception.count, many)

    def test_each_list_is_new(self):
        train = Train(0, [1], [2], 2, [])
        found = train_events(train)
        found.append(None)
        self.assertEqual(train_events(train), [0, 1, 3, 5])
        self.assertIs(type(found), list)

    def test_four_hundred_gaps_and_sixty_digits_are_answered_soon(self):
        train = Train(0, [10 ** 59] * 100, [10 ** 59 - 1] * 200, 10 ** 59, [10 ** 58] * 100)
        begin = time.monotonic()
        for number in range(0, amount_of(train), amount_of(train) // 500):
            self.assertEqual(events_until(train, event_at(train, number)), number + 1)
        self.assertLess(time.monotonic() - begin, 3)
