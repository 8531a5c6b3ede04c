"""[22] desks."""

import random
import time
import unittest

from quietrows.desk import Desk
from quietrows.far import numbers_told, train_told
from quietrows.forms import normal_form, row_of
from quietrows.live import patience
from quietrows.parted import parting
from quietrows.pasts import count_pasts
from quietrows.quiettexts import read_row, read_stream, read_train, row_text, stream_text, train_text
from quietrows.rows import Row, told_times
from quietrows.trains import amount_of, event_at, train_events

HUGE = 10 ** 30
ROW, OTHER = "last 3, first 2, last 2", "last 3, delay 2"
STREAM = "0 1 5 9 11"
TRAIN = "-3 | 1 | 5 2 | 30 | 4"
BUS, BUSSED = "a; last 3; b; first 4", "b; first 4; a; last 2"


def stocked():
    """A desk that keeps two things of each kind."""
    desk = Desk()
    for command in ("row r: " + ROW, "row o: " + OTHER, "bus b: " + BUS, "bus c: " + BUSSED, "stream s: " + STREAM,
                    "stream none: none", "train t: " + TRAIN, "train u: 0 | none | 1 2 | " + str(HUGE) + " | none"):
        if desk.tell(command) != ["kept"]:
            raise AssertionError(command)
    return desk


def state(desk):
    names = desk.tell("names")
    return names, [desk.tell("show " + name) for name in names]


class Keeping(unittest.TestCase):

    def test_kinds_and_texts(self):
        desk = Desk()
        self.assertEqual(desk.tell("names"), ["none"])
        for kind, text in (("row", ROW), ("bus", BUS), ("stream", STREAM), ("train", TRAIN), ("row", "all"),
                           ("stream", "none"), ("train", "0 | none | none | 0 | none")):
            self.assertEqual(desk.tell(kind + " x: " + text), ["kept"])
            self.assertEqual(desk.tell("show x"), [kind + " " + text])
            self.assertEqual(desk.tell("names"), ["x"])
        self.assertEqual(desk.tell("drop x"), ["dropped"])
        self.assertEqual(desk.tell("names"), ["none"])
        self.assertEqual(desk.tell("show x"), ["refused noname"])
        self.assertEqual(desk.tell("drop x"), ["refused noname"])

    def test_names_in_ascending_order_a_string_each(self):
        desk = Desk()
        for name in ("b", "abc", "zz", "a", "row", "names", "abcdefgh"):
            self.assertEqual(desk.tell("stream " + name + ": 1"), ["kept"])
        self.assertEqual(desk.tell("names"), ["a", "abc", "abcdefgh", "b", "names", "row", "zz"])
        desk.tell("names").clear()
        self.assertEqual(len(desk.tell("names")), 7)

    def test_a_name_kept_anew_as_another_kind(self):
        desk = stocked()
        self.assertEqual(desk.tell("stream r: 5"), ["kept"])
        self.assertEqual(desk.tell("show r"), ["stream 5"])
        self.assertEqual(desk.tell("normal r"), ["refused noname"])
        self.assertEqual(desk.tell("tell o r"), ["10"])

    def test_wrong_texts_change_nothing(self):
        desk = stocked()
        before = state(desk)
        for command, answer in (("row r: last", "badtext"), ("row r: last 0", "badmember"), ("row r: ", "badtext"),
                                ("row n: all, all", "badtext"), ("bus b: a; a", "badbus"), ("bus b: last 3", "badbus"),
                                ("bus n: a; delay -1; a", "badmember"), ("bus n: A", "badtext"),
                                ("stream s: 2 1", "badstream"),
                                ("stream n: x", "badtext"), ("stream n: ", "badtext"), ("train t: 0", "badtext"),
                                ("train n: 0 | 0 | none | 0 | none", "badtrain"),
                                ("train r: 0 | 1 | 1 | -1 | 1", "badtrain"),
                                ("row r: all: all", "badtext"), ("row r:  all", "badtext"), ("row r: all ", "badtext"),
                                ("row r : all", "badtext"), ("row  r: all", "badtext"), ("row R: all", "badtext"),
                                ("row abcdefghi: all", "badtext"), ("row : all", "badtext"), ("row: all", "badtext"),
                                ("row r all", "badtext"), ("row r:all", "badtext"), ("row r", "badtext"),
                                ("row", "badtext"),
                                ("row r s: all", "badtext"), (" row r: all", "badtext"), ("Row r: all", "badtext"),
                                ("rows r: all", "badtext"), ("row r1: all", "badtext")):
            self.assertEqual(desk.tell(command), ["refused " + answer], command)
            self.assertEqual(state(desk), before)


class Answers(unittest.TestCase):

    def check(self, desk, *answers):
        for command, answer in answers:
            found = desk.tell(command)
            self.assertIs(type(found), list)
            self.assertEqual(found, [answer], command)

    def test_tell(self):
        self.check(stocked(), ("tell r s", "6 10 16"), ("tell o s", "6 10 16"), ("tell r none", "none"))

    def test_times(self):
        self.check(stocked(), ("times b s s", "0"), ("times b s none", "4 8 14"),
                   ("times b none s", "0 5 9"), ("times b none none", "none"), ("times c none s", "3 7 11 13"),
                   ("times c s none", "2 7 11"),
                   ("times b", "refused noinput"), ("times b s", "refused noinput"),
                   ("times b s s s", "refused noinput"),
                   ("times b s s s s s s s s s s s s", "refused noinput"),
                   ("times b r", "refused noname"), ("times b s x", "refused noname"), ("times r s", "refused noname"),
                   ("times x", "refused noname"), ("times", "refused badtext"), ("times b s S", "refused badtext"),
                   ("times b ", "refused badtext"), ("times b s  s", "refused badtext"))

    def test_same(self):
        desk = stocked()
        self.check(desk, ("same r o", "yes"), ("same o r", "yes"), ("same b b", "yes"), ("same b c", "no"),
                   ("same r b", "refused noname"), ("same b r", "refused noname"), ("same s s", "refused noname"),
                   ("same t t", "refused noname"), ("same r x", "refused noname"), ("same r", "refused badtext"),
                   ("same r r r", "refused badtext"))
        desk.tell("bus d: a; x")
        self.check(desk, ("same b d", "refused otherinputs"))

    def test_normal_part_and_patience(self):
        desk = stocked()
        self.check(desk, ("normal r", "last 3, delay 2"), ("normal o", OTHER), ("part r o", "none"),
                   ("part r r", "none"),
                   ("patience r", "2"), ("patience b", "refused noname"), ("normal x", "refused noname"),
                   ("part r b", "refused noname"), ("part x r", "refused noname"))
        desk.tell("row p: limit 3, delay 5")
        (text,) = desk.tell("part r p")
        stream = train_events(read_train(text))
        self.assertNotEqual(told_times(read_row(ROW), stream), told_times(read_row("limit 3, delay 5"), stream))
        desk.tell("row e: all")
        self.check(desk, ("normal e", "all"), ("patience e", "0"))

    def test_trains(self):
        desk = stocked()
        train = read_train(TRAIN)
        row = read_row(ROW)
        self.check(desk, ("amount t", "63"), ("amount u", str(2 * HUGE + 1)), ("at t 0", "-3"),
                   ("at t 62", str(event_at(train, 62))),
                   ("at t 63", "refused noevent"), ("at t -1", "refused noevent"),
                   ("at u " + str(HUGE), str(3 * HUGE // 2)),
                   ("far r t", str(amount_of(train_told(row, train)))), ("far r u", "1"),
                   ("far r u 0", str(3 * HUGE + 5)),
                   ("far r t 3", str(numbers_told(row, train, 3).time)), ("far r t -1", "refused noevent"),
                   ("far r t 99", "refused noevent"), ("far r s", "refused noname"), ("far t r", "refused noname"),
                   ("far r t x", "refused badtext"), ("far r t 1 1", "refused badtext"), ("far r", "refused badtext"),
                   ("at t 01", "refused badtext"), ("at t -0", "refused badtext"), ("at t", "refused badtext"),
                   ("at s 0", "refused noname"), ("at x " + "9" * 60, "refused noname"),
                   ("at x 1" + "0" * 60, "refused badtext"),
                   ("amount s", "refused noname"))

    def test_pasts(self):
        desk = stocked()
        desk.tell("stream w: 8 12")
        row = read_row(ROW)
        self.check(desk, ("pasts r w 0 9", str(count_pasts(row, [8, 12], 0, 9))),
                   ("pasts r w -5 9", str(count_pasts(row, [8, 12], -5, 9))),
                   ("pasts r none 0 9", "1"), ("pasts r s 0 299", "0"), ("pasts r s 0 300", "refused large"),
                   ("pasts r w 9 0", "0"), ("pasts r w 0", "refused badtext"), ("pasts r w 0 09", "refused badtext"),
                   ("pasts r w 0 1 2", "refused badtext"), ("pasts w r 0 9", "refused noname"),
                   ("pasts r x 0 900", "refused noname"))

    def test_some_rows_and_streams_against_what_is_asked(self):
        for seed in range(100):
            chosen = random.Random(seed)
            texts = [", ".join(chosen.choice(("last ", "first ", "limit ", "delay ")) + str(chosen.randint(1, 9))
                               for _ in range(chosen.randint(1, 6))) for _ in range(2)]
            stream = " ".join(str(one) for one in sorted(chosen.sample(range(-20, 60), chosen.randint(1, 20))))
            desk = Desk()
            for name, text in zip(("one", "two"), texts):
                desk.tell("row " + name + ": " + text)
            desk.tell("stream s: " + stream)
            one, two = [read_row(text) for text in texts]
            train = parting(one, two)
            self.check(desk, ("tell one s", stream_text(told_times(one, read_stream(stream)))),
                       ("normal two", row_text(row_of(normal_form(two)))), ("patience one", str(patience(one))),
                       ("part one two", "none" if train is None else train_text(train)),
                       ("show two", "row " + texts[1]),
                       ("same one two", "yes" if train is None else "no"))


class Refused(unittest.TestCase):

    def test_things_that_are_no_command(self):
        desk = stocked()
        before = state(desk)
        for command in (None, 3, [], ["names"], ("names",), b"names", True, "", " ", "names ", " names", "names x",
                        "name",
                        "Names", "drop", "drop r s", "drop  r", "drop r ", "show", "show r s", "show R", "tell",
                        "tell r",
                        "tell r s s", "tell  r s", "tell r  s", "tell r s ", "tell r: s", "tell R s", "normal",
                        "normal r r",
                        "part r", "part r o o", "patience", "patience r r", "amount", "amount t t", "at t 0 0", "far",
                        "kept r", "any r", "number", "undo", "tell r 5", "at t r", "show abcdefghi", "show r-s",
                        "names: all",
                        "drop r: all", "patience 5", "any", "none"):
            self.assertEqual(desk.tell(command), ["refused badtext"], command)
        self.assertEqual(state(desk), before)

    def test_badtext_comes_before_noname(self):
        desk = Desk()
        for command in ("tell x Y", "at x 00", "at x y", "pasts x y 0 +1", "far x y -0", "times x y Z", "same x",
                        "row x: lost"):
            self.assertEqual(desk.tell(command), ["refused badtext"], command)
        for command in ("tell x y", "at x 0", "pasts x y 0 1000", "far x y 0", "far x y", "times x y z", "same x y",
                        "show x",
                        "drop x", "normal x", "part x y", "patience x", "amount x", "times x"):
            self.assertEqual(desk.tell(command), ["refused noname"], command)

    def test_names_of_other_kinds_than_told(self):
        desk = stocked()
        for command in ("tell s r", "tell r r", "tell b s", "tell r t", "times t s", "times b t", "normal s",
                        "normal t",
                        "part r s", "part s r", "patience t", "amount r", "at r 0", "far b t", "far r b 0",
                        "pasts b s 0 1",
                        "pasts r t 0 1", "same r s", "same s r", "same b t", "same s none"):
            self.assertEqual(desk.tell(command), ["refused noname"], command)

    def test_refused_commands_change_nothing(self):
        desk = stocked()
        before = state(desk)
        for command in ("drop x", "times b s", "at t 999", "pasts r s 0 999", "same r b", "far r t 99", "show x",
                        "part r x"):
            self.assertTrue(desk.tell(command)[0].startswith("refused "))
            self.assertEqual(state(desk), before)

    def test_two_desks_by_turns(self):
        one, two = Desk(), Desk()
        self.assertEqual((one.tell("row r: last 3"), two.tell("stream r: 1")), (["kept"], ["kept"]))
        self.assertEqual((one.tell("show r"), two.tell("show r")), (["row last 3"], ["stream 1"]))
        self.assertEqual((two.tell("drop r"), one.tell("names"), two.tell("names")), (["dropped"], ["r"], ["none"]))

    def test_commands_are_answered_soon(self):
        desk = stocked()
        begin = time.monotonic()
        for _ in range(1000):
            desk.tell("tell r s")
            desk.tell("same b c")
            desk.tell("far r u 0")
            desk.tell("pasts r s 0 9")
        self.assertLess(time.monotonic() - begin, 2)
        desk.tell("stream long: " + " ".join(str(one) for one in range(2000)))
        begin = time.monotonic()
        self.assertEqual(desk.tell("tell r long"), ["2004"])
        self.assertEqual(desk.tell("pasts r long 0 299"), ["0"])
        self.assertLess(time.monotonic() - begin, 1)
        self.assertEqual(told_times(Row([]), [0]), [0])
