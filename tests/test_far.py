"""[12] what rows tell of trains, also of very long ones."""

import random
import time
import unittest

from quietrows.errors import NoEvent
from quietrows.far import numbers_told, train_told
from quietrows.forms import normal_form
from quietrows.members import Delay, First, Last, Limit
from quietrows.rows import Row, Told, told_events
from quietrows.trains import Train, amount_of, event_at, events_until, train_events
from tests import oracle

HUGE = 10 ** 30
MAKERS = (Last, First, Limit, Delay)


def plain(one):
    return one.number, one.time, one.first, one.last


def some_gaps(chosen, most, greatest):
    return [chosen.randint(1, greatest) for _ in range(chosen.randint(0, most))]


def some_train(chosen, rounds):
    greatest = chosen.choice((2, 4, 9, 40))
    return Train(chosen.randint(-9, 9), some_gaps(chosen, 5, greatest), some_gaps(chosen, 6, greatest),
                 chosen.choice(rounds), some_gaps(chosen, 5, greatest))


def some_row(chosen, makers, most):
    greatest = chosen.choice((3, 8, 20, 90, 500))
    return Row([chosen.choice(makers)(chosen.randint(1, greatest)) for _ in range(chosen.randint(0, most))])


def stretched(train, times):
    """The train with its times multiplied."""
    return Train(train.first * times, *[[gap * times for gap in gaps] for gaps in (train.head, train.block)],
                 train.rounds, [gap * times for gap in train.end])


class AgainstListedEvents(unittest.TestCase):

    def check(self, row, train, places=12):
        events = train_events(train)
        told = told_events(row, events)
        found = train_told(row, train)
        self.assertIsInstance(found, Train)
        self.assertEqual(train_events(found), [one.time for one in told])
        self.assertEqual(amount_of(found), len(told))
        for place in sorted({*range(min(places, len(told))), *range(max(len(told) - places, 0), len(told))}):
            self.assertEqual(plain(numbers_told(row, train, place)), plain(told[place]))
        for place in (-1, len(told), len(told) + 1):
            with self.assertRaises(NoEvent) as caught:
                numbers_told(row, train, place)
            self.assertEqual(caught.exception.number, place)
        return found

    def test_one_member_of_each_kind(self):
        for maker in MAKERS:
            for quiet in (1, 2, 3, 4, 5, 6, 7, 8, 11, 12, 13, 30, 200):
                for train in (Train(0, [], [], 0, []), Train(3, [], [], 7, []), Train(3, [2], [], 7, [4]),
                              Train(0, [], [1, 5], 9, []), Train(0, [], [5, 1], 9, []), Train(0, [1, 1], [5, 1], 9, [1]),
                              Train(-5, [4, 3, 1], [3, 2, 4], 6, [1, 4, 3]), Train(0, [1] * 9, [6], 1, [1] * 9),
                              Train(0, [], [3], 20, []), Train(0, [7], [1, 1, 1], 20, [7]),
                              Train(0, [2], [9, 9], 0, [3]), Train(0, [9], [2, 3], 8, [9, 9]),
                              Train(0, [9], [9, 2, 3], 8, [2, 9])):
                    self.check(Row([maker(quiet)]), train, 60)

    def test_the_oracle_tells_the_same(self):
        for seed in range(60):
            chosen = random.Random(seed)
            train = some_train(chosen, (0, 1, 2, 3, 7))
            pairs = [(chosen.choice(list(oracle.MAKERS)), chosen.randint(1, 9)) for _ in range(chosen.randint(0, 5))]
            row = oracle.made(pairs)
            expected = oracle.told(pairs, train_events(train))
            self.assertEqual(train_events(train_told(row, train)), [one[1] for one in expected])
            self.assertEqual([plain(numbers_told(row, train, place)) for place in range(len(expected))], expected)

    def test_rows_of_all_kinds_and_few_rounds(self):
        for seed in range(1500):
            chosen = random.Random(seed)
            row = some_row(chosen, MAKERS, 7)
            self.check(row, some_train(chosen, (0, 1, 2, 3, 5, 9, 30)))

    def test_rows_of_several_limits_and_many_rounds(self):
        for seed in range(150):
            chosen = random.Random(seed)
            row = some_row(chosen, chosen.choice(((Limit,), (Limit, Limit, Last), (Limit, Limit, First))), 6)
            self.check(row, some_train(chosen, (50, 100, 300)), 5)

    def test_blocks_in_which_a_limit_needs_many_rounds_to_come_back(self):
        # With 97 gaps of 1 and a quiet of 5, all places of the block are told until the first comes again.
        self.check(Row([Limit(5)]), Train(0, [], [1] * 97, 60, []), 30)
        self.check(Row([Limit(5)]), Train(0, [2, 2], [1] * 97, 103, [3, 3]), 30)
        self.check(Row([Limit(1000)]), Train(0, [], [1, 2, 3, 4, 7], 500, []), 30)
        self.check(Row([Limit(58), Limit(59), Limit(61), Limit(333)]), Train(0, [4], [19, 23, 7], 900, [5]), 30)
        self.check(Row([Limit(7), Last(8), Limit(33), First(34)]), Train(0, [], [2, 3, 5, 1], 1000, []), 30)

    def test_the_rounds_end_before_a_limit_comes_back(self):
        for rounds in range(12):
            self.check(Row([Limit(5)]), Train(0, [3], [1] * 13, rounds, [2, 2]), 60)
            self.check(Row([Limit(40)]), Train(0, [3], [1] * 13, rounds, [2, 2, 30]), 60)

    def test_what_was_told_is_handed_in_again(self):
        for seed in range(400):
            chosen = random.Random(seed)
            train = some_train(chosen, (0, 1, 3, 9, 40))
            for _ in range(4):
                train = self.check(some_row(chosen, MAKERS, 3), train, 3)

    def test_twenty_members_on_four_hundred_gaps(self):
        for seed in range(6):
            chosen = random.Random(seed)
            members = [chosen.choice(MAKERS)(place * chosen.choice((1, 2)) + 1) for place in range(20)]
            gaps = [chosen.randint(1, 30) for _ in range(400)]
            self.check(Row(members), Train(0, gaps[:100], gaps[100:300], 20, gaps[300:]), 20)


class FarTrains(unittest.TestCase):

    def both_ends(self, row, train, rounds, many):
        """Hold a train with very many rounds against one with few, at the first and the last places."""
        few = Train(train.first, train.head, train.block, rounds, train.end)
        told = told_events(row, train_events(few))
        found = train_told(row, train)
        self.assertEqual([event_at(found, place) for place in range(many)], [one.time for one in told[:many]])
        self.assertEqual([plain(numbers_told(row, train, place)) for place in range(many)],
                         [plain(one) for one in told[:many]])
        left_out = (train.rounds - rounds) * sum(train.block)
        numbers = (train.rounds - rounds) * len(train.block)
        for back in range(1, many + 1):
            one = told[-back]
            place = amount_of(found) - back
            self.assertEqual(event_at(found, place), one.time + left_out)
            self.assertEqual(plain(numbers_told(row, train, place)),
                             (one.number + numbers, one.time + left_out, one.first + numbers, one.last + numbers))

    def test_the_first_and_the_last_events_of_far_trains(self):
        used = 0
        for seed in range(200):
            chosen = random.Random(seed)
            block = some_gaps(chosen, 5, 9) + [chosen.randint(1, 9)]
            head, end = some_gaps(chosen, 5, 9), some_gaps(chosen, 5, 9)
            quiets = sorted(chosen.sample(range(1, 30), 3))
            row = Row([chosen.choice(MAKERS)(quiet) for quiet in quiets])
            train = Train(-7, head, block, 60 * HUGE, end)
            if self.comes_again_soon(row, train):
                self.both_ends(row, train, 60, 5)
                used += 1
        self.assertGreater(used, 40)

    def comes_again_soon(self, row, train):
        """Whether 60 rounds more leave what is told at the end as it is, but for the time."""
        few = [told_events(row, train_events(Train(train.first, train.head, train.block, rounds, train.end)))
               for rounds in (60, 120, 180)]
        ends = [[one.time - told[-1].time for one in told[-15:]] for told in few]
        steps = [later[-1].time - told[-1].time for told, later in zip(few, few[1:])]
        return min(map(len, few)) > 12 and ends[0] == ends[1] == ends[2] and steps == [60 * sum(train.block)] * 2

    def test_times_that_are_all_multiplied(self):
        for seed in range(200):
            chosen = random.Random(seed)
            row = some_row(chosen, MAKERS, 6)
            train = some_train(chosen, (1, 5, 20))
            far_row = Row([type(one)(HUGE * (one.d if type(one) is Delay else one.q)) for one in row.members])
            far_train = stretched(train, HUGE)
            found = train_told(row, train)
            far_found = train_told(far_row, far_train)
            self.assertEqual(train_events(far_found), [HUGE * event for event in train_events(found)])
            for place in range(min(9, amount_of(found))):
                one = numbers_told(row, train, place)
                self.assertEqual(plain(numbers_told(far_row, far_train, place)),
                                 (one.number, HUGE * one.time, one.first, one.last))

    def test_one_of_each_kind_with_ten_to_the_thirty_rounds(self):
        train = Train(5, [], [1, 5], HUGE, [])
        for maker in (First, Limit):
            found = train_told(Row([maker(3)]), train)
            self.assertEqual(amount_of(found), HUGE + 1)
            self.assertEqual(event_at(found, HUGE), 5 + 6 * HUGE)
            self.assertEqual(plain(numbers_told(Row([maker(3)]), train, HUGE)),
                             (2 * HUGE, 5 + 6 * HUGE, 2 * HUGE, 2 * HUGE))
        found = train_told(Row([Last(3)]), train)
        self.assertEqual(amount_of(found), HUGE + 1)
        self.assertEqual(plain(numbers_told(Row([Last(3)]), train, HUGE)), (2 * HUGE, 8 + 6 * HUGE, 2 * HUGE, 2 * HUGE))
        self.assertEqual(plain(numbers_told(Row([Last(3)]), train, HUGE - 1)),
                         (2 * HUGE - 1, 3 + 6 * HUGE, 2 * HUGE - 2, 2 * HUGE - 1))

    def test_rows_that_tell_one_event_of_all(self):
        train = Train(0, [1], [1, 1, 2], HUGE, [2])
        last = 3 * HUGE + 2
        self.assertEqual(plain(numbers_told(Row([Last(3)]), train, 0)), (last, 4 * HUGE + 6, 0, last))
        self.assertEqual(plain(numbers_told(Row([First(3)]), train, 0)), (0, 0, 0, last))
        self.assertEqual(plain(numbers_told(Row([Limit(HUGE ** 2)]), train, 0)), (0, 0, 0, last))
        self.assertEqual([amount_of(train_told(Row([one]), train)) for one in (Last(3), First(3), Limit(HUGE ** 2))],
                         [1, 1, 1])

    def test_a_limit_with_a_quiet_as_great_as_the_rounds(self):
        train = Train(0, [], [1], HUGE, [])
        for quiet in (10 ** 15, 10 ** 15 + 1, HUGE // 3, HUGE - 1, HUGE):
            row = Row([Limit(quiet)])
            found = train_told(row, train)
            self.assertEqual(amount_of(found), HUGE // quiet + 1)
            for place in (0, 1, HUGE // quiet):
                last = min((place + 1) * quiet - 1, HUGE)
                self.assertEqual(plain(numbers_told(row, train, place)),
                                 (place * quiet, place * quiet, place * quiet, last))
                self.assertEqual(event_at(found, place), place * quiet)

    def test_limits_one_behind_the_other_in_a_far_train(self):
        # The second limit gets events 8 apart, the third one events 16 apart.
        row = Row([Limit(7), Limit(9), Limit(17), Delay(HUGE)])
        train = Train(0, [], [1, 3], HUGE, [])
        found = train_told(row, train)
        self.assertEqual(amount_of(found), 4 * HUGE // 32 + 1)
        self.assertEqual(event_at(found, 10 ** 20), 32 * 10 ** 20 + HUGE)
        self.assertEqual(plain(numbers_told(row, train, 10 ** 20)),
                         (16 * 10 ** 20, 32 * 10 ** 20 + HUGE, 16 * 10 ** 20, 16 * 10 ** 20 + 15))

    def test_gaps_quiets_and_rounds_of_sixty_digits(self):
        most = 10 ** 59
        train = Train(-most, [most], [most, most - 1], most, [most])
        row = Row([First(most), Last(most), Delay(most)])
        found = train_told(row, train)
        self.assertEqual(amount_of(found), most + 3)
        self.assertEqual(plain(numbers_told(row, train, 0)), (0, most, 0, 0))
        self.assertEqual(plain(numbers_told(row, train, 1)), (1, 2 * most, 1, 1))
        self.assertEqual(plain(numbers_told(row, train, 2)), (2, 3 * most, 2, 3))
        self.assertEqual(plain(numbers_told(row, train, most + 2)),
                         (2 * most + 2, most * (2 * most - 1) + 3 * most, 2 * most + 2, 2 * most + 2))

    def test_stretches_are_the_whole_train(self):
        for seed in range(60):
            chosen = random.Random(seed)
            row = some_row(chosen, MAKERS, 5)
            train = Train(0, some_gaps(chosen, 4, 9), some_gaps(chosen, 4, 9), HUGE, some_gaps(chosen, 4, 9))
            found = train_told(row, train)
            many = amount_of(found)
            lag = normal_form(row).delay
            self.assertEqual(numbers_told(row, train, 0).first, 0)
            self.assertEqual(numbers_told(row, train, many - 1).last, amount_of(train) - 1)
            for place in (many // 7, many // 2, many - 2):
                if 0 <= place < many - 1:
                    one, two = numbers_told(row, train, place), numbers_told(row, train, place + 1)
                    self.assertEqual(one.last + 1, two.first)
                    self.assertTrue(one.first <= one.number <= one.last)
                    self.assertEqual(one.time, event_at(found, place))
                    self.assertEqual(event_at(train, one.number) + lag, one.time)
                    self.assertEqual(events_until(found, one.time), place + 1)

    def test_told_again_of_what_was_told(self):
        row = Row([Last(2), First(3), Limit(50), Delay(4), Limit(90)])
        train = Train(0, [3, 1], [1, 5, 2, 4], HUGE, [9, 1])
        found = train_told(row, train)
        again = train_told(row, found)
        # All gaps are wide enough now, so only the delay is added.
        self.assertEqual(amount_of(again), amount_of(found))
        for place in (0, 1, HUGE // 50, amount_of(found) - 1):
            self.assertEqual(event_at(again, place), event_at(found, place) + 6)
            self.assertEqual(plain(numbers_told(row, found, place)), (place, event_at(again, place), place, place))

    def test_it_is_told_soon(self):
        for makers in ((Limit,), (Limit, Last, First)):
            for seed in range(3):
                chosen = random.Random(seed)
                row = Row([makers[place % len(makers)](place * 9 + 2) for place in range(20)])
                gaps = [chosen.randint(1, 40) for _ in range(400)]
                begin = time.monotonic()
                train = Train(0, gaps[:20], gaps[20:380], HUGE, gaps[380:])
                found = train_told(row, train)
                train_told(Row([Limit(10 ** 5)] + list(row.members)), found)
                for place in range(0, amount_of(found), amount_of(found) // 20):
                    numbers_told(row, train, place)
                self.assertLess(time.monotonic() - begin, 3)


class WrongPlaces(unittest.TestCase):

    def test_places_of_no_told_event(self):
        row = Row([First(3)])
        for train, many in ((Train(0, [], [1, 5], HUGE, []), HUGE + 1), (Train(0, [1], [], 0, []), 1)):
            for place in (-1, -HUGE, many, many + 1, HUGE ** 2, True, False, None, "0", 0.0, [0], (0,)):
                with self.subTest(place=place), self.assertRaises(NoEvent) as caught:
                    numbers_told(row, train, place)
                self.assertIs(caught.exception.number, place)

    def test_the_last_place_that_there_is(self):
        train = Train(0, [], [1, 5], HUGE, [])
        self.assertEqual(numbers_told(Row([First(3)]), train, HUGE), Told(2 * HUGE, 6 * HUGE, 2 * HUGE, 2 * HUGE))
