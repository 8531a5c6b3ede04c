"""[2] the conventions and the interface, for each class and function of the modules there are."""

import copy
import inspect
import unittest

from quietrows import busses, desk, errors, far, finding, forms, inlets, leading, live, members, parted, pasts
from quietrows import quiettexts, rows, timing, trains
from quietrows.busses import Bus, Places, bus_places, same_busses, told_by
from quietrows.desk import Desk
from quietrows.errors import BadForm, BadRow, BadStream, BadTrain, QuietError
from quietrows.far import numbers_told, train_told
from quietrows.finding import Finder
from quietrows.forms import Normal, idle_members, is_contained, normal_form, row_of, same_rows
from quietrows.inlets import parting_inputs
from quietrows.leading import count_leading, least_leading, telling_stream
from quietrows.live import Live
from quietrows.members import Delay, First, Last, Limit, check_stream
from quietrows.parted import parting
from quietrows.pasts import can_tell, count_pasts
from quietrows.rows import Row, Told, told_events, told_times
from quietrows.timing import Timers
from quietrows.trains import Train, amount_of, event_at, events_until, train_events

INTERFACE = {
    members: {"check_stream": ["stream"], "Last": ["q"], "First": ["q"], "Limit": ["q"], "Delay": ["d"]},
    rows: {"Row": ["members"], "Told": ["number", "time", "first", "last"],
           "told_events": ["row", "stream"], "told_times": ["row", "stream"]},
    forms: {"Normal": ["records", "delay"], "normal_form": ["row"], "row_of": ["form"],
            "same_rows": ["row", "other"], "idle_members": ["row"], "is_contained": ["row", "other"]},
    parted: {"parting": ["row", "other"]},
    pasts: {"can_tell": ["row", "times"], "count_pasts": ["row", "times", "begin", "end"]},
    trains: {"Train": ["first", "head", "block", "rounds", "end"], "amount_of": ["train"],
             "event_at": ["train", "number"], "events_until": ["train", "time"], "train_events": ["train"]},
    far: {"train_told": ["row", "train"], "numbers_told": ["row", "train", "place"]},
    finding: {"Finder": ["most"]},
    leading: {"count_leading": ["stream", "numbers", "most"], "least_leading": ["stream", "numbers", "most"],
              "telling_stream": ["most"]},
    busses: {"Bus": ["steps"], "told_by": ["bus", "streams"], "Places": ["inputs", "segments"], "bus_places": ["bus"],
             "same_busses": ["bus", "other"]},
    inlets: {"parting_inputs": ["bus", "other"]},
    live: {"patience": ["row"], "late_stream": ["row"], "certain_at": ["row", "stream", "number"],
           "open_at": ["row", "stream", "moment"], "Live": ["row"]},
    timing: {"Timers": ["index", "started", "stopped", "rung"], "row_timers": ["row", "stream"],
             "train_timers": ["row", "train"]},
    quiettexts: {"row_text": ["row"], "bus_text": ["bus"], "stream_text": ["stream"], "train_text": ["train"],
                 "read_row": ["text"], "read_bus": ["text"], "read_stream": ["text"], "read_train": ["text"]},
    desk: {"Desk": []},
}
METHODS = {
    Finder: {"ask": [], "take_answer": ["times"], "known_form": []},
    Live: {"push": ["time"], "wait": ["time"], "moment_now": [], "open_events": [], "so_far": [], "undo": []},
    Desk: {"tell": ["command"]},
}


def sample_row():
    return Row([Delay(1), Last(3), First(3), Last(5), First(1)])


def sample_train():
    return Train(0, [1, 4], [3, 2, 9], 4, [7, 1])


def samples():
    """Objects of all classes, none equal to another one."""
    return [
        Last(3), Last(4), First(3), First(4), Limit(3), Limit(4), Delay(3), Delay(4),
        Row([]), Row([Last(3)]), Row([First(3)]), Row([Last(3), First(3)]), Row([First(3), Last(3)]),
        Told(1, 2, 3, 4), Told(0, 2, 3, 4), Told(1, 0, 3, 4), Told(1, 2, 0, 4), Told(1, 2, 3, 0),
        Normal((), 0), Normal((), 3), Normal((("last", 3),), 3), Normal((("last", 4),), 3), Normal((("first", 3),), 3),
        Normal((("last", 3),), 4),
        Train(0, [1], [2], 3, [4]), Train(5, [1], [2], 3, [4]), Train(0, [5], [2], 3, [4]), Train(0, [1], [5], 3, [4]),
        Train(0, [1], [2], 5, [4]), Train(0, [1], [2], 3, [5]), Train(0, [1], [2], 3, []), Train(0, [], [], 0, []),
        Bus(["a"]), Bus(["b"]), Bus(["a", "b"]), Bus(["b", "a"]), Bus(["a", Last(3)]), Bus(["a", First(3)]),
        Places([[("a", 0)]], [[]]), Places([[("b", 0)]], [[]]), Places([[("a", 1)]], [[]]), Places([], []),
        Places([[("a", 0)]], [[("last", 3)]]), Places([], [[("last", 3)]]),
        Timers(1, 2, 3, 4), Timers(0, 2, 3, 4), Timers(1, 0, 3, 4), Timers(1, 2, 0, 4), Timers(1, 2, 3, 0),
    ]


class Interface(unittest.TestCase):

    def test_names_and_arguments_in_order(self):
        for module, listed in INTERFACE.items():
            for name, names in listed.items():
                with self.subTest(name):
                    parameters = inspect.signature(getattr(module, name)).parameters.values()
                    self.assertEqual([one.name for one in parameters], names)
                    for one in parameters:
                        self.assertEqual((one.kind, one.default), (one.POSITIONAL_OR_KEYWORD, one.empty))

    def test_methods_stand_in_their_class_with_their_arguments_in_order(self):
        for made, listed in METHODS.items():
            for name, names in listed.items():
                with self.subTest(name):
                    self.assertIn(name, vars(made))
                    parameters = list(inspect.signature(vars(made)[name]).parameters.values())[1:]
                    self.assertEqual([one.name for one in parameters], names)
                    for one in parameters:
                        self.assertEqual((one.kind, one.default), (one.POSITIONAL_OR_KEYWORD, one.empty))

    def test_each_is_defined_in_the_file_under_which_it_is_listed(self):
        for module, listed in INTERFACE.items():
            for name in listed:
                self.assertEqual(getattr(module, name).__module__, module.__name__)

    def test_arguments_by_keyword(self):
        row = Row(members=[Last(q=3), First(q=3), Limit(q=4), Delay(d=2)])
        self.assertEqual(row, Row([Last(3), First(3), Limit(4), Delay(2)]))
        self.assertIsNone(check_stream(stream=[0]))
        self.assertEqual(told_events(stream=[0], row=row), [Told(last=0, first=0, time=5, number=0)])
        self.assertEqual(told_times(stream=[0], row=row), [5])
        form = Normal(delay=5, records=[["last", 3], ["limit", 4]])
        self.assertEqual(normal_form(row=row), form)
        self.assertEqual(row_of(form=form), Row([Last(3), Limit(4), Delay(2)]))
        self.assertEqual(idle_members(row=row), [1, 3])
        self.assertIs(same_rows(other=row, row=Row([])), False)
        self.assertIs(is_contained(other=Row([]), row=Row([Last(3)])), True)

    def test_arguments_by_keyword_of_trains_and_what_asks_for_them(self):
        row, train = Row([First(3)]), Train(end=[4], rounds=3, block=[5, 2], head=[1], first=0)
        self.assertEqual(train, Train(0, [1], [5, 2], 3, [4]))
        self.assertEqual((amount_of(train=train), event_at(number=8, train=train), events_until(time=13, train=train)),
                         (9, 26, 5))
        self.assertEqual(train_events(train=train)[:3], [0, 1, 6])
        self.assertEqual(amount_of(train_told(train=train, row=row)), 5)
        self.assertEqual(numbers_told(place=1, train=train, row=row), Told(2, 6, 2, 3))
        self.assertIsNone(parting(other=row, row=row))
        self.assertIs(can_tell(times=[0, 2], row=row), False)
        self.assertEqual(count_pasts(end=1, begin=0, times=[0], row=row), 2)

    def test_arguments_by_keyword_of_what_leads_finders_and_busses(self):
        self.assertEqual(count_leading(most=3, numbers=[2], stream=[0, 1, 3]), 2)
        self.assertEqual(least_leading(most=3, numbers=[2], stream=[0, 1, 3]), (("last", 3),))
        self.assertEqual(told_times(Row([]), telling_stream(most=2)), telling_stream(2))
        finder = Finder(most=1)
        self.assertEqual(len(finder.ask()), 1)
        finder.take_answer(times=finder.ask())
        self.assertEqual(finder.known_form(), Normal((), 0))
        bus = Bus(steps=["a", Last(2)])
        self.assertEqual(told_by(streams=[("a", [0])], bus=bus), [2])
        self.assertEqual(bus_places(bus=bus), Places(segments=[[("last", 2)]], inputs=[[("a", 2)]]))
        self.assertIs(same_busses(other=bus, bus=bus), True)
        self.assertIsNone(parting_inputs(other=bus, bus=bus))

    def test_fields_are_named_as_the_parameters(self):
        self.assertEqual(vars(Last(3)), {"q": 3})
        self.assertEqual(vars(First(3)), {"q": 3})
        self.assertEqual(vars(Limit(3)), {"q": 3})
        self.assertEqual(vars(Delay(3)), {"d": 3})
        self.assertEqual(vars(Row([Last(3)])), {"members": (Last(3),)})
        self.assertEqual(vars(Told(1, 2, 3, 4)), {"number": 1, "time": 2, "first": 3, "last": 4})
        self.assertEqual(vars(Normal((("last", 3),), 4)), {"records": (("last", 3),), "delay": 4})
        self.assertEqual(vars(Train(0, [1], [2], 3, [4])),
                         {"first": 0, "head": (1,), "block": (2,), "rounds": 3, "end": (4,)})
        self.assertEqual(vars(Bus(["a", Last(2)])), {"steps": ("a", Last(2))})
        self.assertEqual(vars(Places([[("a", 0)]], [[]])), {"inputs": ((("a", 0),),), "segments": ((),)})
        self.assertEqual(vars(Timers(1, 2, 3, 4)), {"index": 1, "started": 2, "stopped": 3, "rung": 4})


class Arguments(unittest.TestCase):

    def test_sequences_are_kept_as_tuples_also_inside(self):
        self.assertEqual(repr(Normal([["last", 3], ("first", 4)], 3).records), "(('last', 3), ('first', 4))")
        self.assertEqual(repr(Normal([[["a", []]]], 3).records), "((('a', ()),),)")
        self.assertEqual(repr(Normal([], [1, [2]]).delay), "(1, (2,))")
        self.assertIs(type(Row([Last(3)]).members), tuple)
        self.assertEqual(repr(normal_form(sample_row()).records), "(('last', 3), ('last', 5))")

    def test_later_changes_of_lists_have_no_effect(self):
        given = [Last(3)]
        row = Row(given)
        given.append(First(9))
        given[0] = Delay(1)
        self.assertEqual(row, Row([Last(3)]))
        records = [["last", 3], ["first", 4]]
        form = Normal(records, 3)
        records[0][1] = 5
        records.pop()
        self.assertEqual(form.records, (("last", 3), ("first", 4)))
        head, block, end = [1], [2, 3], [4]
        train = Train(0, head, block, 2, end)
        head.append(0)
        block[0] = None
        end.clear()
        self.assertEqual((train.head, train.block, train.end), ((1,), (2, 3), (4,)))

    def test_arguments_are_never_changed(self):
        stream, given = [0, 1, 5, 9], [Delay(1), Last(3), First(3)]
        row, form, records = Row(given), Normal([["last", 3]], 4), [["last", 3]]
        before = copy.deepcopy((stream, given, row, form, records))
        check_stream(stream)
        told_events(row, stream)
        told_times(row, stream)
        normal_form(row)
        row_of(form)
        same_rows(row, row)
        idle_members(row)
        is_contained(row, row)
        Normal(records, 3)
        self.assertEqual((stream, given, row, form, records), before)
        self.assertEqual(type(records[0]), list)

    def test_arguments_about_trains_and_pasts_are_never_changed(self):
        row, other, train, gaps, times = sample_row(), Row([Limit(2)]), sample_train(), [1, 2], [7, 12]
        before = copy.deepcopy((row, other, train, gaps, times))
        Train(0, gaps, gaps, 2, gaps)
        amount_of(train)
        event_at(train, 3)
        events_until(train, 9)
        train_events(train).clear()
        for one in (row, other, Row([First(5)]), Row([Last(9)])):
            train_told(one, train)
            numbers_told(one, train, 0)
        parting(row, other)
        can_tell(row, times)
        count_pasts(row, times, 0, 9)
        self.assertEqual((row, other, train, gaps, times), before)
        self.assertEqual(type(gaps), list)

    def test_what_leads_finders_and_busses_change_no_argument(self):
        stream, numbers, streams = [0, 1, 4], [0, 2], [["a", [0, 1]], ["b", [5]]]
        bus, other = Bus(["a", Last(3), "b", First(4)]), Bus(["b", First(4), "a"])
        before = copy.deepcopy((stream, numbers, streams, bus, other))
        count_leading(stream, numbers, 9)
        least_leading(stream, numbers, 9)
        finder, answer = Finder(3), [7]
        finder.ask()
        finder.take_answer(answer)
        answer.append(8)
        told_by(bus, streams).clear()
        bus_places(bus)
        same_busses(bus, other)
        parting_inputs(bus, other)
        self.assertEqual((stream, numbers, streams, bus, other), before)

    def test_calls_that_raise_change_nothing(self):
        stream, given, row = [0, 2, 2], [Last(3), None], sample_row()
        form = Normal([["last", 3]], 2)
        before = (list(stream), list(given), copy.deepcopy(row), copy.deepcopy(form))
        train, gaps = sample_train(), [1, 0]
        for call, arguments in ((check_stream, [stream]), (told_events, [row, stream]), (told_times, [row, stream]),
                                (Row, [given]), (row_of, [form]), (is_contained, [Row([Limit(3)]), row]),
                                (Train, [0, gaps, gaps, 0, gaps]), (event_at, [train, 99]), (can_tell, [row, stream]),
                                (train_events, [Train(0, [], [1], 10 ** 4, [])]), (numbers_told, [row, train, -1]),
                                (count_pasts, [row, stream, 0, 9]), (count_pasts, [row, [0], 0, 300]),
                                (count_leading, [stream, gaps, 3]), (least_leading, [[0, 1], gaps, 3]),
                                (Bus, [given]), (told_by, [Bus(["a"]), [["a", stream]]]),
                                (parting_inputs, [Bus(["a", Last(41)]), Bus(["a"])])):
            with self.assertRaises(QuietError):
                call(*arguments)
        self.assertEqual((stream, given, row, form), before)
        self.assertEqual((train, gaps), (sample_train(), [1, 0]))

    def test_an_object_stays_as_it_is_when_made_anew_wrongly(self):
        for made, again, error in ((Last(3), 0, errors.BadMember), (First(3), 0, errors.BadMember),
                                   (Limit(3), True, errors.BadMember), (Delay(3), -1, errors.BadMember),
                                   (Row([Last(3)]), [Last(4), 5], BadRow)):
            before = copy.deepcopy(made)
            with self.assertRaises(error):
                made.__init__(again)
            self.assertEqual(made, before)
        train = sample_train()
        with self.assertRaises(BadTrain):
            train.__init__(1, [2], [3], 4, [0])
        self.assertEqual(train, sample_train())
        bus = Bus(["a", Last(3)])
        with self.assertRaises(errors.BadBus):
            bus.__init__(["b", "b"])
        self.assertEqual(bus, Bus(["a", Last(3)]))

    def test_lists_and_tuples_are_accepted_alike(self):
        stream = [0, 1, 5, 9]
        row = Row(list(sample_row().members))
        self.assertEqual(row, Row(tuple(row.members)))
        self.assertIsNone(check_stream(tuple(stream)))
        self.assertEqual(told_events(row, stream), told_events(row, tuple(stream)))
        self.assertEqual(told_times(row, stream), told_times(row, tuple(stream)))
        self.assertEqual(Normal([["last", 3]], 3), Normal((("last", 3),), 3))
        self.assertEqual(row_of(Normal([["last", 3]], 3)), row_of(Normal((("last", 3),), 3)))
        self.assertEqual(Train(0, [1], [2], 3, [4]), Train(0, (1,), (2,), 3, (4,)))
        self.assertEqual(can_tell(row, [8, 99]), can_tell(row, (8, 99)))
        self.assertEqual(count_pasts(row, [15, 25], 0, 40), count_pasts(row, (15, 25), 0, 40))
        self.assertEqual(count_leading([0, 1], [0], 3), count_leading((0, 1), (0,), 3))
        self.assertEqual(least_leading([0, 1], [0], 3), least_leading((0, 1), (0,), 3))
        self.assertEqual(Bus(["a", Last(2)]), Bus(("a", Last(2))))
        self.assertEqual(told_by(Bus(["a"]), [["a", [0]]]), told_by(Bus(("a",)), (("a", (0,)),)))
        self.assertEqual(Places([[["a", 0]]], [[]]), Places(((("a", 0),),), ((),)))

    def test_strings_are_no_sequences(self):
        for call, error in ((lambda: Row(""), BadRow), (lambda: Row("ab"), BadRow),
                            (lambda: check_stream(""), BadStream), (lambda: check_stream("12"), BadStream),
                            (lambda: told_events(Row([]), ""), BadStream), (lambda: told_times(Row([]), ""), BadStream),
                            (lambda: row_of(Normal("", 0)), BadForm), (lambda: row_of(Normal(("ab",), 0)), BadForm),
                            (lambda: Train(0, "", [], 0, []), BadTrain), (lambda: Train(0, [], "", 0, []), BadTrain),
                            (lambda: Train(0, [], [], 0, ""), BadTrain), (lambda: can_tell(Row([]), ""), BadStream),
                            (lambda: count_pasts(Row([]), "", 0, 9), BadStream), (lambda: Bus("a"), errors.BadBus),
                            (lambda: count_leading("", [], 3), BadStream),
                            (lambda: least_leading([], "", 3), errors.BadNumbers),
                            (lambda: told_by(Bus(["a"]), [("a", "")]), BadStream)):
            with self.assertRaises(error):
                call()
        self.assertEqual(Normal("ab", 0).records, "ab")


class Results(unittest.TestCase):

    def test_each_returned_list_is_new_and_the_callers(self):
        stream = [0, 1, 5, 9]
        for row in (Row([]), Row([Delay(0)]), sample_row()):
            for call in (lambda: told_events(row, stream), lambda: told_times(row, stream), lambda: idle_members(row)):
                found, kept = call(), call()
                self.assertIs(type(found), list)
                self.assertIsNot(found, kept)
                self.assertIsNot(found, stream)
                found.append(None)
                self.assertEqual(call(), kept)
        self.assertEqual(stream, [0, 1, 5, 9])

    def test_returned_lists_of_busses_finders_and_telling_streams(self):
        bus, other = Bus(["a", Last(3), "b", Last(3)]), Bus(["a", Delay(3), "b", Last(3)])
        for call in (lambda: told_by(bus, [("a", [0, 9])]), lambda: telling_stream(3), Finder(3).ask,
                     lambda: parting_inputs(bus, other), lambda: parting_inputs(bus, other)[1][1]):
            found, kept = call(), call()
            self.assertIs(type(found), list)
            self.assertIsNot(found, kept)
            found.append(None)
            self.assertEqual(call(), kept)

    def test_told_objects_are_new_too(self):
        row = Row([])
        told_events(row, [0])[0].time = 5
        self.assertEqual(told_events(row, [0]), [Told(0, 0, 0, 0)])

    def test_pairs_are_tuples(self):
        for pair in normal_form(sample_row()).records:
            self.assertIs(type(pair), tuple)

    def test_kinds_of_results(self):
        self.assertIs(type(told_events(sample_row(), [0])[0]), Told)
        self.assertIs(type(normal_form(sample_row())), Normal)
        self.assertIs(type(row_of(normal_form(sample_row()))), Row)
        self.assertIs(type(normal_form(Row([])).delay), int)
        self.assertIs(type(parting(sample_row(), Row([]))), Train)
        self.assertIs(type(train_told(sample_row(), sample_train())), Train)
        self.assertIs(type(numbers_told(sample_row(), sample_train(), 0)), Told)
        self.assertIs(type(train_events(sample_train())), list)
        for count in (amount_of(sample_train()), event_at(sample_train(), 0), events_until(sample_train(), -1),
                      count_pasts(Row([]), [], 0, 0), count_pasts(Row([]), [9], 0, 0)):
            self.assertIs(type(count), int)
        for row in (Row([]), Row([Last(3)])):
            self.assertIs(can_tell(row, [0, 3]), True)
            self.assertIs(can_tell(row, []), True)
        self.assertIs(can_tell(Row([Last(3)]), [0, 2]), False)
        self.assertIs(type(count_leading([0], [0], 3)), int)
        self.assertEqual(repr(least_leading([0, 1, 3], [2], 3)), "(('last', 3),)")
        self.assertIs(type(bus_places(Bus(["a"]))), Places)
        self.assertIs(same_busses(Bus(["a"]), Bus(["a"])), True)
        self.assertIs(same_busses(Bus(["a"]), Bus(["a", Last(2)])), False)
        for call in (same_rows, is_contained):
            self.assertIs(call(Row([Last(3)]), Row([Last(3)])), True)
            self.assertIs(call(Row([]), Row([Last(3)])), False)
            self.assertIs(call(Row([Last(3)]), Row([Last(5)])), False)

    def test_equal_arguments_give_equal_results(self):
        stream = [0, 1, 5, 9]
        for call in (lambda: told_events(sample_row(), stream), lambda: told_times(sample_row(), stream),
                     lambda: normal_form(sample_row()), lambda: row_of(normal_form(sample_row())),
                     lambda: idle_members(sample_row()), lambda: is_contained(Row([Last(3)]), Row([Last(2)])),
                     lambda: parting(sample_row(), Row([Limit(9)])), lambda: train_told(sample_row(), sample_train()),
                     lambda: numbers_told(sample_row(), sample_train(), 1), lambda: train_events(sample_train()),
                     lambda: count_pasts(sample_row(), [9, 16], 0, 30), lambda: can_tell(sample_row(), [9, 16]),
                     lambda: count_leading(stream, [0], 9), lambda: least_leading(stream, [0], 9),
                     lambda: telling_stream(4), lambda: bus_places(Bus(["b", "a", Last(2)])),
                     lambda: told_by(Bus(["a", Last(2)]), [("a", stream)]),
                     lambda: parting_inputs(Bus(["a", Last(2), "b"]), Bus(["a", Last(2), "b", First(2)]))):
            self.assertEqual(call(), call())

    def test_everything_is_numbered_from_0(self):
        self.assertEqual(told_events(Row([]), [7])[0].number, 0)
        self.assertEqual(idle_members(Row([Delay(0)])), [0])
        self.assertEqual(event_at(sample_train(), 0), 0)
        self.assertEqual(numbers_told(Row([]), sample_train(), 0), Told(0, 0, 0, 0))

    def test_somewhat_beyond_the_bounds_nothing_is_raised(self):
        row = Row([First(2)] * 30 + [Last(10 ** 70)])
        self.assertEqual(told_times(row, list(range(2500))), [10 ** 70])
        self.assertEqual(normal_form(row).records, (("first", 2), ("last", 10 ** 70)))
        self.assertEqual(len(idle_members(row)), 29)
        many = Normal([("first", quiet) for quiet in range(2, 40)], 0)
        self.assertEqual(normal_form(row_of(many)), many)


class Equality(unittest.TestCase):

    def test_equal_exactly_if_class_and_fields_are_equal(self):
        for at, one in enumerate(samples()):
            for place, other in enumerate(samples()):
                with self.subTest(one=vars(one), other=vars(other)):
                    self.assertIs(one == other, at == place)
                    self.assertIs(one != other, at != place)

    def test_never_equal_to_objects_of_other_classes(self):
        others = [None, 3, "3", (), (3,), [], [3], {"q": 3}, (1, 2, 3, 4), ((), 0), (Last(3),), [Last(3)], object()]
        for one in samples():
            for other in others:
                self.assertIs(one == other, False)
                self.assertIs(other == one, False)
                self.assertIs(one != other, True)
