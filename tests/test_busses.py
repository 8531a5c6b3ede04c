"""[15] busses and what they tell, [16] their normal form, [17] when two of them do the same."""

import random
import time
import unittest
from itertools import product

from quietrows.busses import Bus, Places, bus_places, same_busses, told_by
from quietrows.errors import BadBus, BadStream, NoInput, OtherInputs
from quietrows.forms import normal_form, same_rows
from quietrows.members import Delay, First, Last, Limit
from quietrows.rows import Row, told_times
from tests import oracle

KINDS = ("last", "first", "limit", "delay")
HUGE = 10 ** 30


def some_steps(chosen, names, many, greatest):
    """Steps with these names in some order, and so many members in some places behind the first one."""
    parts = [[name] for name in chosen.sample(names, len(names))]
    for _ in range(many):
        kind = chosen.choice(KINDS)
        chosen.choice(parts).append((kind, chosen.randint(0 if kind == "delay" else 1, greatest)))
    return [step for part in parts for step in part]


def some_stream(chosen, most, widest):
    times = [chosen.randint(-5, 5)]
    for _ in range(chosen.randint(0, most)):
        times.append(times[-1] + chosen.randint(1, widest))
    return times if chosen.random() < 0.8 else []


class Busses(unittest.TestCase):

    def test_steps(self):
        steps = ["a", Last(2), "b", "abcdefgh", Delay(0)]
        bus = Bus(steps)
        self.assertEqual(bus.steps, tuple(steps))
        steps.append("c")
        self.assertEqual(len(bus.steps), 5)
        self.assertEqual(Bus(("a", Last(2))), Bus(["a", Last(2)]))
        self.assertNotEqual(Bus(["a", Last(2)]), Bus(["a", Last(3)]))
        self.assertNotEqual(Bus(["a", "b"]), Bus(["b", "a"]))

    def test_bad_busses(self):
        for steps, index in ((None, -1), ("ab", -1), ("", -1), ({}, -1), (3, -1), ([], -1), ((), -1),
                             ([Last(2)], 0), ([Last(2), "a"], 0), ([None], 0), ([""], 0), (["A"], 0), ([Row([])], 0),
                             (["a", "a"], 1), (["a", Last(2), "b", "a"], 3), (["a", "abcdefghi"], 1), (["a", ""], 1),
                             (["a", "b1"], 1), (["a", "b c"], 1), (["a", "bC"], 1), (["a", "-"], 1), (["a", "b "], 1),
                             (["a", None], 1), (["a", 3], 1), (["a", True], 1), (["a", ["b"]], 1), (["a", ("b",)], 1),
                             (["a", Row([Last(2)])], 1), (["a", ("last", 2)], 1), (["a", Bus(["b"])], 1),
                             (["a", Last(2), "b", 5, "a"], 3), (["a", "b", "b", 5], 2), (["abcdefghi", "a"], 0),
                             ((Delay(1), 5), 0)):
            with self.subTest(steps=steps), self.assertRaises(BadBus) as caught:
                Bus(steps)
            self.assertEqual(caught.exception.index, index)

    def test_names_like_kinds_are_names(self):
        bus = Bus(["last", "first", Last(2), "none", "all"])
        self.assertEqual(told_by(bus, [("last", [0]), ("all", [1])]), [1, 2])


class Told(unittest.TestCase):

    def test_held_against_an_own_walk(self):
        for seed in range(800):
            chosen = random.Random(seed)
            names = ["a", "b", "c", "d", "longname"][:chosen.randint(1, 5)]
            steps = some_steps(chosen, names, chosen.randint(0, 8), 6)
            some = chosen.sample(names, chosen.randint(0, len(names)))
            streams = [(name, some_stream(chosen, 9, 5)) for name in some]
            told = told_by(oracle.bus_made(steps), streams)
            self.assertEqual(told, oracle.bus_told(steps, streams), (steps, streams))
            self.assertIs(type(told), list)

    def test_events_at_the_same_time_are_one(self):
        self.assertEqual(told_by(Bus(["a", "b"]), [("a", [0, 1, 2]), ("b", [1, 2, 3])]), [0, 1, 2, 3])
        self.assertEqual(told_by(Bus(["a", Delay(2), "b", First(2)]), [("a", [0, 3]), ("b", [2, 4])]), [2, 4])
        self.assertEqual(told_by(Bus(["a", Last(3), "b"]), [("a", [0]), ("b", [3])]), [3])

    def test_inputs_without_a_pair_have_no_events(self):
        bus = Bus(["a", Last(2), "b", First(3)])
        self.assertEqual(told_by(bus, []), [])
        self.assertEqual(told_by(bus, ()), [])
        self.assertEqual(told_by(bus, [("a", [])]), [])
        self.assertEqual(told_by(bus, [("b", [0, 2, 5])]), [0, 5])
        self.assertEqual(told_by(bus, [("a", [0, 1])]), [3])

    def test_pairs_in_any_order_lists_and_tuples(self):
        bus = Bus(["a", Last(2), "b", Last(4)])
        for streams in ([("a", [0, 1]), ("b", [-1])], [("b", [-1]), ("a", [0, 1])], (["b", (-1,)], ["a", (0, 1)])):
            self.assertEqual(told_by(bus, streams), [3, 7])

    def test_a_bus_of_one_input_is_a_row(self):
        for members in ([], [Last(3), First(5)], [Delay(2), Limit(4)]):
            self.assertEqual(told_by(Bus(["a"] + members), [("a", [0, 2, 3, 9])]),
                             told_times(Row(members), [0, 2, 3, 9]))

    def test_names_that_are_no_inputs_or_come_twice(self):
        bus = Bus(["a", "b"])
        for streams, name in (([("c", [0])], "c"), ([("a", [0]), ("c", [0]), ("d", [0])], "c"),
                              ([("a", [0]), ("a", [0])], "a"), ([("a", [0]), ("b", [0]), ("a", [0])], "a"),
                              ([("A", [])], "A"), ([("", [])], ""), ([("a", None), ("b", [1, 1]), ("c", None)], "c"),
                              ([("c", None), ("a", None)], "c"), ([("a", None), ("a", [0])], "a")):
            with self.subTest(streams=streams), self.assertRaises(NoInput) as caught:
                told_by(bus, streams)
            self.assertEqual(caught.exception.name, name)

    def test_the_first_stream_that_is_none(self):
        bus = Bus(["a", "b", "c"])
        for streams, place in (([("a", None)], -1), ([("b", [0, 0])], 1), ([("a", [0]), ("b", [1, 2, 2])], 2),
                               ([("c", [True]), ("a", [0, 0])], 0), ([("b", "12"), ("a", [None])], -1),
                               ([("c", [0, 1, None]), ("a", None)], 2)):
            with self.subTest(streams=streams), self.assertRaises(BadStream) as caught:
                told_by(bus, streams)
            self.assertEqual(caught.exception.place, place)

    def test_nothing_that_is_handed_in_changes(self):
        steps, streams = ["a", Last(2), "b"], [["a", [0, 1]], ["b", [0]]]
        bus = Bus(steps)
        told_by(bus, streams).clear()
        bus_places(bus)
        same_busses(bus, bus)
        with self.assertRaises(NoInput):
            told_by(bus, streams + [["a", []]])
        self.assertEqual((steps, streams, bus), (["a", Last(2), "b"], [["a", [0, 1]], ["b", [0]]], Bus(steps)))
        stream = [0, 1]
        self.assertIsNot(told_by(Bus(["a"]), [("a", stream)]), stream)

    def test_many_steps_and_events_are_answered_soon(self):
        names = ["in" + letter for letter in "abcdefghijkl"]
        steps = [step for at, name in enumerate(names) for step in (name, (Last, First, Limit)[at % 3](at + 2))]
        chosen = random.Random(1)
        streams = [(name, sorted(chosen.sample(range(50000), 2000))) for name in names]
        begin = time.monotonic()
        told = told_by(Bus(steps), streams)
        self.assertLess(time.monotonic() - begin, 2)
        self.assertGreater(len(told), 10)
        begin = time.monotonic()
        bus = Bus(["a", Last(2), "b", Last(4)])
        for _ in range(2000):
            told_by(bus, [("a", [0, 1]), ("b", [-1])])
            same_busses(bus, bus)
        self.assertLess(time.monotonic() - begin, 2)


class NormalForms(unittest.TestCase):

    def test_inputs_at_the_same_place_with_unlike_delays(self):
        places = bus_places(Bus(["c", Delay(3), "a", Last(1), First(1), "b", Delay(1), Limit(4)]))
        self.assertEqual(places, Places(((("a", 2), ("b", 1), ("c", 5)),), ((("limit", 4),),)))

    def test_segments_without_records_between_names(self):
        places = bus_places(Bus(["a", Last(3), "b", "c", Delay(2), "d", First(5), "e"]))
        self.assertEqual(places.inputs, ((("a", 5),), (("b", 2), ("c", 2), ("d", 0)), (("e", 0),)))
        self.assertEqual(places.segments, ((("last", 3),), (("first", 5),), ()))

    def test_the_last_segment_without_records(self):
        self.assertEqual(bus_places(Bus(["a"])), Places([[("a", 0)]], [[]]))
        self.assertEqual(bus_places(Bus(["b", "a", Delay(4)])), Places([[("a", 4), ("b", 4)]], [[]]))
        self.assertEqual(bus_places(Bus(["a", Limit(3), "b", Last(1)])),
                         Places([[("a", 1)], [("b", 1)]], [[("limit", 3)], []]))

    def test_the_records_are_those_of_each_segment_by_itself(self):
        places = bus_places(Bus(["a", Last(5), First(3), Limit(9), "b", Last(2), Last(2), First(4)]))
        self.assertEqual(places.segments, ((("last", 5), ("limit", 9)), (("last", 2), ("first", 4))))
        self.assertEqual(places.inputs, ((("a", 9),), (("b", 4),)))

    def test_a_bus_of_one_input_has_the_form_of_the_row(self):
        chosen = random.Random(7)
        for _ in range(50):
            steps = some_steps(chosen, ["a"], 6, 7)
            bus = oracle.bus_made(steps)
            form = normal_form(Row(bus.steps[1:]))
            self.assertEqual(bus_places(bus), Places([[("a", form.delay)]], [form.records]))

    def test_all_parts_are_tuples(self):
        places = bus_places(Bus(["b", "a", Last(3), "c"]))
        self.assertEqual(repr(places.inputs), "((('a', 3), ('b', 3)), (('c', 0),))")
        self.assertEqual(repr(places.segments), "((('last', 3),), ())")
        given = [[["a", 3]]]
        made = Places(given, [[["last", 3]]])
        given[0].append(["b", 3])
        self.assertEqual(vars(made), {"inputs": ((("a", 3),),), "segments": ((("last", 3),),)})
        self.assertEqual(Places("ab", 3).inputs, "ab")


class Same(unittest.TestCase):

    def test_same_busses_do_the_same_and_no_others(self):
        """All busses of two inputs with two small members, held against all streams of a few moments."""
        members = [(kind, quiet) for kind in KINDS[:3] for quiet in (2, 3)]
        moments = [tuple(at for at in range(5) if bits >> at & 1) for bits in range(32)]
        busses = {}
        for names in ("ab", "ba"):
            for many in range(3):
                for chosen in product(members, repeat=many):
                    for cut in range(many + 1):
                        steps = [names[0], *chosen[:cut], names[1], *chosen[cut:]]
                        busses[tuple(steps)] = self.with_equal_delays(steps)
        forms, tells = {}, {}
        for steps, bus in busses.items():
            if bus is None:
                continue
            told = tuple(tuple(told_by(bus, [("a", one), ("b", two)])) for one in moments for two in moments)
            tells[steps] = told
            forms.setdefault(told, []).append(steps)
        chosen = random.Random(3)
        for alike in forms.values():
            for steps in alike[1:]:
                self.assertTrue(same_busses(busses[alike[0]], busses[steps]), (alike[0], steps))
        unlike = list(forms.values())
        for one in unlike:
            for two in chosen.sample(unlike, 40):
                if one is not two:
                    self.assertFalse(same_busses(busses[one[0]], busses[two[0]]), (one[0], two[0]))

    def with_equal_delays(self, steps):
        """The bus with delays behind both names, so that a and b are always told 6 later."""
        late = [at for at, step in enumerate(steps) if isinstance(step, str)][1]
        lags = [sum(step[1] for step in part if step[0] == "last") for part in (steps[1:late], steps[late + 1:])]
        if lags[0] > 0:
            return None if lags[0] + lags[1] > 6 else oracle.bus_made(
                steps[:late] + [("delay", 6 - lags[0] - lags[1])] + steps[late:])
        return oracle.bus_made(steps + [("delay", 6 - lags[1])])

    def test_busses_that_are_unlike_in_one_step(self):
        for many in range(2, 7):
            names = list("abcdef"[:many])
            steps = [step for at, name in enumerate(names) for step in (name, Limit(2 + at), Last(9 + at))]
            bus = Bus(steps)
            self.assertIs(same_busses(bus, Bus(steps)), True)
            for at, step in enumerate(steps):
                if not isinstance(step, str):
                    for other in (First(step.q), Limit(step.q + 20), Delay(step.lag())):
                        changed = steps[:at] + [other] + steps[at + 1:]
                        self.assertIs(same_busses(bus, Bus(changed)), False)
                        self.assertIs(same_busses(Bus(changed), bus), False)
                self.assertIs(same_busses(bus, Bus(steps[:at + 1] + [Delay(1)] + steps[at + 1:])), False)
                self.assertIs(same_busses(bus, Bus(steps[:at + 1] + [Delay(0), First(1)] + steps[at + 1:])), True)

    def test_rows_may_do_the_same_where_busses_do_not(self):
        self.assertIs(same_rows(Row([Last(3), Last(2)]), Row([Last(3), Delay(2)])), True)
        self.assertIs(same_busses(Bus(["a", Last(3), "b", Last(2)]), Bus(["a", Last(3), "b", Delay(2)])), False)

    def test_inputs_at_the_same_place_in_any_order(self):
        self.assertIs(same_busses(Bus(["a", "b", Last(2)]), Bus(["b", "a", Last(2)])), True)
        self.assertIs(same_busses(Bus(["a", Delay(3), "b", Last(2)]), Bus(["b", "a", Delay(3), Last(2)])), False)
        self.assertIs(same_busses(Bus(["b", Delay(2), "a", Delay(HUGE)]), Bus(["b", Last(1), "a", First(1), Delay(1)])),
                      False)
        self.assertIs(same_busses(Bus(["b", Delay(1), "a", Delay(1)]), Bus(["b", Last(1), "a", First(1), Delay(1)])),
                      True)

    def test_other_inputs(self):
        for steps, others in ((["a"], ["b"]), (["a", "b"], ["a"]), (["a", Last(3)], ["a", Last(3), "b"]),
                              (["a", "b"], ["a", "c"])):
            for one, two in ((steps, others), (others, steps)):
                with self.assertRaises(OtherInputs) as caught:
                    same_busses(Bus(one), Bus(two))
                self.assertEqual(vars(caught.exception), {})
