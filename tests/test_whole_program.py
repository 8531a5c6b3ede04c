"""[2] what holds for the whole program: arguments by their names, new results, nothing changed, no state left."""

import copy
import unittest
from itertools import permutations

from quietrows import errors
from quietrows.busses import Bus, Places
from quietrows.desk import Desk
from quietrows.errors import QuietError
from quietrows.finding import Finder
from quietrows.forms import Normal
from quietrows.live import Live
from quietrows.members import Delay, First, Last, Limit
from quietrows.rows import Row
from quietrows.timing import Timers
from quietrows.trains import Train
from tests.test_conventions import INTERFACE, METHODS, samples
from tests.test_errors import FIELDS

# What each parameter may be given in the calls below; some functions need others.
GIVEN = {
    "row": lambda: Row([Last(2), First(4), Delay(1)]), "other": lambda: Row([First(4), Last(6)]),
    "stream": lambda: [0, 1, 5, 9], "times": lambda: [9, 20], "train": lambda: Train(0, [1], [5, 2], 3, [4]),
    "form": lambda: Normal([["last", 3]], 5), "bus": lambda: Bus(["a", Last(3), "b", Last(3)]),
    "streams": lambda: [["b", [4]], ["a", [0, 1]]], "members": lambda: [Last(2), Delay(1)], "q": lambda: 3,
    "d": lambda: 0,
    "number": lambda: 2, "time": lambda: 7, "first": lambda: 1, "last": lambda: 2, "records": lambda: [["last", 3]],
    "delay": lambda: 5, "begin": lambda: 0, "end": lambda: 20, "head": lambda: [1], "block": lambda: [2, 3],
    "rounds": lambda: 4, "place": lambda: 1, "most": lambda: 4, "numbers": lambda: [1, 3],
    "steps": lambda: ["a", Last(2)],
    "inputs": lambda: [[["a", 2]]], "segments": lambda: [[["last", 2]]], "moment": lambda: 9, "index": lambda: 0,
    "started": lambda: 3, "stopped": lambda: 1, "rung": lambda: 2,
}
OWN = {
    ("Train", "end"): lambda: [4], ("Train", "first"): lambda: -3, ("is_contained", "row"): lambda: Row([Last(5)]),
    ("is_contained", "other"): lambda: Row([Last(3)]),
    ("same_busses", "other"): lambda: Bus(["b", "a"]), ("parting_inputs", "other"): lambda: Bus(["a", Delay(3), "b",
                                                                                                 Last(3)]),
    ("read_row", "text"): lambda: "last 3", ("read_bus", "text"): lambda: "a; last 3",
    ("read_stream", "text"): lambda: "1 2", ("read_train", "text"): lambda: "0 | none | none | 0 | none",
}


def listed():
    return [(name, getattr(module, name), names) for module, functions in INTERFACE.items()
            for name, names in functions.items()]


def given_for(name, names):
    return {parameter: OWN.get((name, parameter), GIVEN.get(parameter))() for parameter in names}


def shown(thing):
    """A thing's class and fields as text, also inside, so that it can be compared with another one's."""
    if isinstance(thing, (list, tuple)):
        return type(thing).__name__ + str([shown(part) for part in thing])
    if type(thing).__module__.startswith("quietrows"):
        return type(thing).__name__ + str({name: shown(part) for name, part in vars(thing).items()})
    return repr(thing)


def tuples_of(thing):
    return tuple(tuples_of(part) for part in thing) if isinstance(thing, (list, tuple)) else thing


class Calls(unittest.TestCase):

    def test_the_interface_is_all_here(self):
        self.assertEqual(len(listed()), 52)
        self.assertEqual(sum(len(methods) for methods in METHODS.values()), 10)

    def test_arguments_by_their_names_in_any_order(self):
        for name, call, names in listed():
            expected = shown(call(*given_for(name, names).values()))
            for order in list(permutations(names))[:24]:
                given = given_for(name, names)
                with self.subTest(name=name, order=order):
                    self.assertEqual(shown(call(**{parameter: given[parameter] for parameter in order})), expected)
            given = given_for(name, names)
            if len(names) > 1:
                first = given.pop(names[0])
                self.assertEqual(shown(call(first, **given)), expected)

    def test_methods_by_the_names_of_their_arguments(self):
        finder = Finder(most=2)
        finder.ask()
        self.assertIsNone(finder.take_answer(times=[0]))
        live = Live(row=Row([Last(2)]))
        self.assertEqual((live.push(time=3), live.wait(time=4)), ([], [(0, True)]))
        self.assertEqual(Desk().tell(command="names"), ["none"])

    def test_arguments_stay_as_they_are_and_results_do_not_hang_on_them(self):
        for name, call, names in listed():
            given, kept = given_for(name, names), given_for(name, names)
            found = call(**given)
            self.assertEqual(shown(list(given.values())), shown(list(kept.values())), name)
            expected = shown(found)
            for thing in given.values():
                if isinstance(thing, list):
                    for part in thing:
                        if isinstance(part, list):
                            part.clear()
                    thing.clear()
            self.assertEqual(shown(found), expected, name)

    def test_lists_and_tuples_are_accepted_alike(self):
        for name, call, names in listed():
            given = given_for(name, names)
            self.assertEqual(shown(call(**{parameter: tuples_of(thing) for parameter, thing in given.items()})),
                             shown(call(**given)), name)

    def test_results_are_new_and_equal_each_time(self):
        for name, call, names in listed():
            given = given_for(name, names)
            found, again = call(**given), call(**given)
            self.assertEqual(shown(found), shown(again), name)
            if isinstance(found, list):
                self.assertIsNot(found, again, name)
                kept = shown(again)
                for part in found:
                    for inner in part if isinstance(part, tuple) else ():
                        if isinstance(inner, list):
                            inner.clear()
                found.clear()
                self.assertEqual(shown(call(**given)), kept, name)

    def test_objects_made_again_wrongly_stay_as_they_are(self):
        for made, wrong in ((Last(3), [0]), (Delay(3), [-1]), (Row([Last(3)]), [None]), (Bus(["a"]), [["a", "a"]]),
                            (Train(0, [1], [2], 3, [4]), [0, [1], [2], -3, [4]])):
            kept = copy.deepcopy(made)
            with self.assertRaises(QuietError):
                made.__init__(*wrong)
            self.assertEqual(made, kept)


class Equality(unittest.TestCase):

    def test_all_objects_with_each_other_and_with_copies(self):
        made = samples()
        for at, one in enumerate(made):
            self.assertEqual(one, copy.deepcopy(one))
            for place, other in enumerate(made):
                self.assertIs(one == other, at == place)

    def test_objects_of_other_classes_with_the_same_fields_are_unlike(self):
        class Other:
            def __init__(self, **fields):
                self.__dict__.update(fields)

        for one in samples():
            other = Other(**vars(one))
            for thing in (other, vars(one), tuple(vars(one).values()), list(vars(one).values()), None, 3, "3"):
                self.assertIs(one == thing, False)
                self.assertIs(thing == one, False)
        for one, other in ((Last(3), First(3)), (First(3), Limit(3)), (Delay(3), Last(3)),
                           (Places([], []), Normal([], [])),
                           (Bus(["a"]), Row([])), (Timers(0, 1, 2, 3), (0, 1, 2, 3))):
            self.assertIs(one == other, False)

    def test_classes_of_objects_with_equality_are_all_held(self):
        kinds = {call.__name__ for _, call, _ in listed() if isinstance(call, type)} - {"Finder", "Live", "Desk"}
        self.assertEqual({type(one).__name__ for one in samples()}, kinds)


class ErrorClasses(unittest.TestCase):

    def test_each_error_class_tells_its_own_name(self):
        for name in FIELDS:
            self.assertIn("told", vars(getattr(errors, name)))
            self.assertEqual(getattr(errors, name).__bases__, (QuietError,))


class NoStateIsLeft(unittest.TestCase):

    def test_calls_do_not_hang_on_what_was_asked_before(self):
        first = {name: shown(call(**given_for(name, names))) for name, call, names in listed()}
        for name, call, names in reversed(listed()):
            self.assertEqual(shown(call(**given_for(name, names))), first[name])

    def test_objects_keep_their_own_state(self):
        finders, lives = [Finder(3), Finder(3)], [Live(Row([Last(3)])), Live(Row([Last(3)]))]
        finders[0].ask()
        with self.assertRaises(errors.NoQuestion):
            finders[1].take_answer([0])
        lives[0].push(5)
        self.assertIsNone(lives[1].moment_now())
        self.assertEqual(lives[1].push(0), [])
