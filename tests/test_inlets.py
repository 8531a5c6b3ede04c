"""[17] streams of few inputs that part two busses."""

import random
import time
import unittest
from itertools import combinations, product

from quietrows.busses import Bus, bus_places, same_busses, told_by
from quietrows.errors import Large, OtherInputs
from quietrows.inlets import parting_inputs
from quietrows.members import Delay, First, Last, Limit, check_stream
from tests import oracle
from tests.test_busses import some_steps

KINDS = (Last, First, Limit)
HUGE = 10 ** 30


def delays_of(steps):
    return {name: delay for place in bus_places(Bus(steps)).inputs for name, delay in place}


def with_delays(steps, delays):
    """The steps with a Delay ahead of each later name, and behind all, so that each input has this delay.

    None if this cannot be.
    """
    found = list(steps)
    for name in [step for step in steps if isinstance(step, str)][::-1]:
        lacking = delays[name] - delays_of(found)[name]
        if lacking < 0:
            return None
        later = [at for at, step in enumerate(found) if isinstance(step, str) and at > found.index(name)]
        found.insert(min(later, default=len(found)), Delay(lacking))
    return found


def all_rows(greatest, most):
    """All rows of up to so many records with ascending quiets."""
    found = []
    for many in range(most + 1):
        for quiets in combinations(range(2, greatest + 1), many):
            for kinds in product(KINDS, repeat=many):
                found.append([kind(quiet) for kind, quiet in zip(kinds, quiets)])
    return found


class Parting(unittest.TestCase):

    def check(self, steps, others):
        """Ask for the parting inputs, hold them against what both tell, and return them."""
        bus, other = Bus(steps), Bus(others)
        found = parting_inputs(bus, other)
        if found is None:
            self.assertTrue(same_busses(bus, other), (steps, others))
            return None
        self.assertFalse(same_busses(bus, other), (steps, others))
        self.assertIs(type(found), list)
        self.assertTrue(1 <= len(found) <= 2)
        names = [name for name, _ in found]
        self.assertEqual(names, sorted(set(names)))
        for pair in found:
            self.assertIs(type(pair), tuple)
            self.assertIs(type(pair[1]), list)
            check_stream(pair[1])
        self.assertLessEqual(sum(len(stream) for _, stream in found), 1500)
        walked = [[step if isinstance(step, str) else
                   ("delay", step.d) if isinstance(step, Delay) else (step.kind(), step.q) for step in part]
                  for part in (steps, others)]
        self.assertNotEqual(oracle.bus_told(walked[0], found), oracle.bus_told(walked[1], found), (steps, others))
        self.assertNotEqual(told_by(bus, found), told_by(other, found))
        return found

    def test_all_busses_of_two_inputs_with_few_members_and_the_same_delays(self):
        rows = all_rows(4, 2)
        busses = [[names[0], *row, names[1], *other] for names in ("ab", "ba") for row in rows for other in rows]
        chosen = random.Random(2)
        # Where a Last stands between the names, the early one has a greater delay.
        for delays in ({"a": 20, "b": 20}, {"a": 30, "b": 20}):
            made = [steps for steps in (with_delays(steps, delays) for steps in busses) if steps]
            parted = [self.check(one, chosen.choice(made)) for one in made for _ in range(2)]
            self.assertGreater(len([1 for found in parted if found is not None]), 500)

    def test_where_one_input_alone_does_not_part_them(self):
        """Busses of two inputs whose rows behind each input do the same, in both orders."""
        rows = all_rows(5, 2)
        longer = all_rows(5, 3)
        chosen = random.Random(4)
        groups = {}
        for names in ("ab", "ba"):
            for row, other in [(chosen.choice(rows), chosen.choice(longer)) for _ in range(6000)]:
                late = {names[0]: 30 if all(one.lag() == 0 for one in row) else 60, names[1]: 30}
                steps = with_delays([names[0], *row, names[1], *other], late)
                alone = [bus_places(Bus(["c"] + [step for step in steps[steps.index(name):]
                                                 if not isinstance(step, str)])) for name in "ab"]
                groups.setdefault(str([(one.inputs, one.segments) for one in alone]), []).append(steps)
        many = crossed = 0
        for alike in groups.values():
            for steps, others in list(combinations(alike, 2))[:60]:
                found = self.check(steps, others)
                if found is not None:
                    self.assertEqual(len(found), 2)
                    many += 1
                    crossed += steps[0] != others[0]
        self.assertGreater(many, 1000)
        self.assertGreater(crossed, 200)

    def test_many_common_records_behind(self):
        for seed in range(1500):
            chosen = random.Random(seed)
            quiets = sorted(chosen.sample(range(2, 41), chosen.randint(3, 18)))
            records = [chosen.choice(KINDS)(quiet) for quiet in quiets]
            low = chosen.randint(0, min(3, len(records) - 1))
            high = chosen.randint(low + 1, min(low + 3, len(records)))
            begin = chosen.randint(0, low)
            row, more, behind = records[:low], records[:high], records[begin:]
            pairs = [(["a", *row, "b", *behind], ["a", *more, "b", *behind])]
            early = [chosen.choice(KINDS)(quiet)
                     for quiet in sorted(chosen.sample(range(2, 41), 2)) if quiet <= more[-1].q]
            if early and all(record.lag() == 0 for record in more + early):
                both = early + [record for record in more if record.q > early[-1].q] + records[high:]
                pairs.append((["a", *more, "b", *both], ["b", *early, "a", *more, *records[high:]]))
            for pair, delay in zip(pairs, (2000, 1000)):
                steps, others = [with_delays(part, {"a": delay, "b": 1000}) for part in pair]
                found = self.check(steps, others)
                if found is not None:
                    self.assertEqual(len(found), 2)

    def test_rows_of_many_records_behind_one_input(self):
        for seed in range(300):
            chosen = random.Random(seed)
            quiets = sorted(chosen.sample(range(2, 41), 22))
            records = [chosen.choice(KINDS)(quiet) for quiet in quiets]
            at = chosen.randrange(len(records))
            others = records[:at] + records[at + 1:]
            if chosen.random() < 0.5:
                others.insert(at, chosen.choice(KINDS)(quiets[at]))
            steps, others = with_delays(["in"] + records, {"in": 999}), with_delays(["in"] + others, {"in": 999})
            found = self.check(steps, others)
            if found is not None:
                self.assertEqual([name for name, _ in found], ["in"])

    def test_busses_that_are_unlike_in_one_step(self):
        for seed in range(60):
            chosen = random.Random(seed)
            names = list("abcdef"[:chosen.randint(2, 6)])
            steps = [step if isinstance(step, str) else oracle.MAKERS[step[0]](step[1])
                     for step in some_steps(chosen, names, chosen.randint(2, 12), 12)]
            for at, step in enumerate(steps):
                if isinstance(step, str):
                    changes = [[step, Delay(1)], [step, chosen.choice(KINDS)(chosen.randint(1, 13))]]
                else:
                    changes = [[], [Delay(step.lag())], [chosen.choice(KINDS)(chosen.randint(1, 13))]]
                for change in changes:
                    self.check(steps, steps[:at] + change + steps[at + 1:])

    def test_names_that_change_places(self):
        for seed in range(400):
            chosen = random.Random(seed)
            names = list("abcde"[:chosen.randint(2, 5)])
            steps = [step if isinstance(step, str) else oracle.MAKERS[step[0]](step[1])
                     for step in some_steps(chosen, names, chosen.randint(2, 8), 6)]
            moved = chosen.choice([name for name in names if name != steps[0]])
            others = [step for step in steps if step != moved]
            others.insert(chosen.randint(0, len(others)), moved)
            self.check(steps, others)
            delays = {name: 60 for name in names}
            if with_delays(steps, delays) and with_delays(others, delays):
                self.check(with_delays(steps, delays), with_delays(others, delays))

    def test_unlike_delays_of_one_input(self):
        self.check(["a", Delay(1), "b", Last(3)], ["a", "b", Last(3)])
        self.check(["a", Delay(HUGE), "b", Last(3)], ["a", Delay(HUGE + 1), "b", Last(3)])
        self.check(["b", "a", Last(3)], ["b", Delay(2), "a", Last(3)])
        self.check(["a", "b", "c", Delay(2)], ["c", "b", Delay(1), "a", Delay(2)])

    def test_streams_far_from_zero(self):
        steps = ["a", Last(3), Delay(HUGE), "b", Last(3), Delay(HUGE)]
        self.check(steps, ["a", Delay(3 + HUGE), "b", Last(3), Delay(HUGE)])
        self.check(["a", First(4), Delay(HUGE), "b", First(4)],
                   ["b", First(4), Delay(HUGE), "a", Delay(HUGE), First(4)])

    def test_none_where_both_do_the_same(self):
        for steps, others in ((["a"], ["a"]), (["b", "a"], ["a", "b"]),
                              (["a", Last(40), "b", Limit(2)], ["a", Last(40), First(40), "b", Limit(2), First(1)])):
            self.assertIsNone(self.check(steps, others))

    def test_quiets_up_to_forty_and_above(self):
        for kind in KINDS:
            self.check(["a", kind(40), "b", First(39)], ["a", kind(39), "b", First(39)])
            for steps, others, count in ((["a", kind(41)], ["a", kind(41)], 41), (["a"], ["a", kind(41)], 41),
                                         (["a", kind(50), "b"], ["b", kind(HUGE), "a"], HUGE),
                                         (["a", kind(41), "b", kind(3)], ["b", kind(5), "a", kind(4)], 41),
                                         (["a", First(39), kind(42), kind(60)], ["a", First(3)], 60)):
                with self.assertRaises(Large) as caught:
                    parting_inputs(Bus(steps), Bus(others))
                self.assertEqual(caught.exception.count, count)
        # Delays are no quiets.
        self.check(["a", Delay(100), "b"], ["a", Delay(99), "b"])

    def test_other_inputs_come_before_large(self):
        for steps, others in ((["a"], ["b"]), (["a", "b"], ["a"]), (["a", Last(41)], ["b", Last(41)]),
                              (["a", Last(HUGE)], ["a", Last(HUGE), "b"])):
            for one, two in ((steps, others), (others, steps)):
                with self.assertRaises(OtherInputs) as caught:
                    parting_inputs(Bus(one), Bus(two))
                self.assertEqual(vars(caught.exception), {})

    def test_answers_are_new_each_time_and_the_same(self):
        one, two = Bus(["a", Last(3), "b", Last(3)]), Bus(["a", Delay(3), "b", Last(3)])
        found = parting_inputs(one, two)
        kept = [(name, list(stream)) for name, stream in found]
        found[0][1].clear()
        found.clear()
        self.assertEqual(parting_inputs(one, two), kept)

    def test_answers_come_soon(self):
        names = ["in" + letter for letter in "abcdefghijkl"]
        records = [KINDS[at % 3](at + 2) for at in range(11)]
        steps = [step for name, record in zip(names, records + [Delay(1)]) for step in (name, record)]
        others = steps[:-3] + [Limit(40)] + steps[-2:]
        begin = time.monotonic()
        self.check(steps, others)
        self.check(steps, steps[:-4] + [First(12), steps[-4]] + steps[-2:])
        self.assertLess(time.monotonic() - begin, 1)
        one, two = Bus(["a", Last(3), "b", Last(3)]), Bus(["a", Delay(3), "b", Last(3)])
        begin = time.monotonic()
        for _ in range(1000):
            parting_inputs(one, two)
        self.assertLess(time.monotonic() - begin, 2)
