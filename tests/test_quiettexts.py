"""[21] texts of rows, busses, streams and trains."""

import random
import time
import unittest

from quietrows.busses import Bus
from quietrows.errors import BadBus, BadMember, BadStream, BadText, BadTrain
from quietrows.members import Delay, First, Last, Limit
from quietrows.quiettexts import (bus_text, read_bus, read_row, read_stream, read_train, row_text, stream_text,
                                  train_text)
from quietrows.rows import Row
from quietrows.trains import Train

READERS = (read_row, read_bus, read_stream, read_train)
MOST = 10 ** 60 - 1


def some_number(chosen, least):
    return least + chosen.choice((0, 1, 9, 10, 59, 10 ** 20, 10 ** 59))


def some_member(chosen):
    kind = chosen.choice((Last, First, Limit, Delay))
    return kind(some_number(chosen, 0 if kind is Delay else 1))


def ascending(chosen, many):
    return sorted(chosen.sample(range(-10 ** 18, 10 ** 18), many))


class Texts(unittest.TestCase):

    def test_rows(self):
        for row, text in ((Row([]), "all"), (Row([Last(300), Limit(50), Delay(7)]), "last 300, limit 50, delay 7"),
                          (Row([First(1)]), "first 1"), (Row([Delay(0), Delay(0)]), "delay 0, delay 0")):
            self.assertEqual(row_text(row), text)
            self.assertEqual(read_row(text), row)

    def test_busses(self):
        for bus, text in ((Bus(["a"]), "a"), (Bus(["abcdefgh", Last(3), "b"]), "abcdefgh; last 3; b"),
                          (Bus(["last", Last(1), "all", Delay(0), "none"]), "last; last 1; all; delay 0; none")):
            self.assertEqual(bus_text(bus), text)
            self.assertEqual(read_bus(text), bus)

    def test_streams(self):
        for stream, text in (([], "none"), ([0], "0"), ([-7, -1, 0, 12], "-7 -1 0 12"), ([MOST], "9" * 60)):
            self.assertEqual(stream_text(stream), text)
            self.assertEqual(stream_text(tuple(stream)), text)
            self.assertEqual(read_stream(text), stream)
            self.assertIs(type(read_stream(text)), list)

    def test_trains(self):
        for train, text in ((Train(0, [], [], 0, []), "0 | none | none | 0 | none"),
                            (Train(-5, [1], [2, 3], 10 ** 30, [4, 5, 6]),
                             "-5 | 1 | 2 3 | " + str(10 ** 30) + " | 4 5 6"),
                            (Train(7, [], [], 9, [1]), "7 | none | none | 9 | 1")):
            self.assertEqual(train_text(train), text)
            self.assertEqual(read_train(text), train)

    def test_what_is_written_is_read_again(self):
        for seed in range(200):
            chosen = random.Random(seed)
            row = Row([some_member(chosen) for _ in range(chosen.randint(0, 20))])
            self.assertEqual(read_row(row_text(row)), row)
            names = chosen.sample(["a", "last", "none", "abcdefgh", "z", "delay"], chosen.randint(1, 6))
            steps = [names[0]]
            for name in names[1:]:
                steps += [some_member(chosen) for _ in range(chosen.randint(0, 3))] + [name]
            self.assertEqual(read_bus(bus_text(Bus(steps))), Bus(steps))
            stream = ascending(chosen, chosen.randint(0, 50))
            self.assertEqual(read_stream(stream_text(stream)), stream)
            train = Train(chosen.randint(-10 ** 59, 10 ** 59),
                          [some_number(chosen, 1) for _ in range(chosen.randint(0, 3))],
                          [some_number(chosen, 1) for _ in range(chosen.randint(0, 3))], some_number(chosen, 0),
                          [some_number(chosen, 1) for _ in range(chosen.randint(0, 3))])
            self.assertEqual(read_train(train_text(train)), train)

    def test_numbers_of_sixty_digits_and_more(self):
        for number in (MOST, -MOST):
            self.assertEqual(read_stream(str(number)), [number])
        self.assertEqual(read_row(f"last {MOST}"), Row([Last(MOST)]))
        self.assertEqual(read_bus(f"a; delay {MOST}"), Bus(["a", Delay(MOST)]))
        self.assertEqual(read_train(f"-{MOST} | {MOST} | none | {MOST} | none"), Train(-MOST, [MOST], [], MOST, []))
        for number in (10 ** 60, -10 ** 60, 10 ** 69, 10 ** 70 - 1, 1 - 10 ** 70):
            self.assertEqual(stream_text([number]), str(number))
            self.assertEqual(train_text(Train(number, [], [], 0, [])), f"{number} | none | none | 0 | none")
            self.refused(read_stream, str(number), 0)
            self.refused(read_train, f"{number} | none | none | 0 | none", 0)
            if number > 0:
                self.assertEqual(row_text(Row([First(2), Delay(number)])), f"first 2, delay {number}")
                self.assertEqual(bus_text(Bus(["a", Limit(number)])), f"a; limit {number}")
                self.assertEqual(train_text(Train(0, [number], [number], number, [number])),
                                 f"0 | {number} | {number} | {number} | {number}")
                self.refused(read_row, f"first 2, delay {number}", 1)
                self.refused(read_bus, f"a; limit {number}", 1)
                self.refused(read_train, f"0 | {number} | none | 0 | none", 1)
                self.refused(read_train, f"0 | none | none | {number} | none", 3)

    def refused(self, read, text, place, error=BadText, field="place"):
        with self.subTest(text=text), self.assertRaises(error) as caught:
            read(text)
        self.assertEqual(getattr(caught.exception, field), place)


class Wrong(unittest.TestCase):

    refused = Texts.refused

    def test_things_that_are_no_string(self):
        for read in READERS:
            for thing in (None, 3, [], ["all"], ("a",), b"all", True, {}):
                self.refused(read, thing, 0)

    def test_numbers_that_are_none(self):
        for wrong in ("-0", "00", "03", "-03", "+3", "3.0", "3 ", " 3", "", "-", "--3", "3-", "1e3", "0x3", "1_0", "x",
                      "-00",
                      "None", "1,"):
            self.refused(read_row, "last 5, last " + wrong, 1)
            self.refused(read_bus, "a; last 5; last " + wrong, 2)
            self.refused(read_train, wrong + " | none | none | 0 | none", 0)
            self.refused(read_train, "0 | none | none | " + wrong + " | none", 3)
            if " " not in wrong and wrong:
                self.refused(read_stream, "5 " + wrong + " 7", 1)
                self.refused(read_train, "0 | 1 " + wrong + " | none | 0 | none", 1)

    def test_rows(self):
        for text, place in (("", 0), ("last", 0), ("last 3, last", 1), ("last3", 0), ("last  3", 0), (" last 3", 0),
                            ("last 3 ", 0), ("last 3,last 4", 0), ("last 3,  last 4", 1), ("last 3 , last 4", 0),
                            ("last 3, ", 1), (", last 3", 0), ("last 3, , last 4", 1), ("last 3,", 0), ("Last 3", 0),
                            ("lust 3", 0), ("all, last 3", 0), ("last 3, all", 1), ("all ", 0), (" all", 0),
                            ("none", 0),
                            ("last 3 4", 0), ("last x", 0), ("3 last", 0), ("last 3; last 4", 0), ("a", 0),
                            ("delay", 0),
                            ("last 3, first 4, limit", 2), ("last 3, last 4, lust 5, limit", 2), ("all, all", 0)):
            self.refused(read_row, text, place)

    def test_members_come_behind_all_forms(self):
        for text, what in (("last 0", "q"), ("first -3", "q"), ("limit 0", "q"), ("delay -1", "d"),
                           ("delay -2, last 0", "d"), ("last 0, delay -2", "q"), ("last 3, limit -" + "9" * 60, "q")):
            self.refused(read_row, text, what, BadMember, "what")
        self.refused(read_row, "last 0, delay -2, last x", 2)
        self.refused(read_row, "last 0, last", 1)

    def test_busses(self):
        for text, place in (("", 0), ("a;b", 0), ("a; b ", 1), ("a;  b", 1), ("A", 0), ("a; bC", 1),
                            ("a; abcdefghi", 1),
                            ("a; b1", 1), ("a; ", 1), ("; a", 0), ("a; last 3, last 4", 1), ("a; last  3", 1),
                            ("a, b", 0), ("a; last 03", 1), ("a; -", 1), ("abcdefghi", 0), ("a b", 0),
                            ("a; lust 3", 1)):
            self.refused(read_bus, text, place)
        # The word for a kind alone is a name.
        self.assertEqual(read_bus("a; last"), Bus(["a", "last"]))

    def test_members_and_then_steps_come_behind_all_forms(self):
        for text, index in (("last 3", 0), ("last 3; a", 0), ("a; a", 1), ("a; last 3; b; a", 3), ("a; b; b; a", 2),
                            ("delay 0; a; a", 0)):
            self.refused(read_bus, text, index, BadBus, "index")
        for text, what in (("last 0; a", "q"), ("a; a; delay -1", "d"), ("a; limit 0; a", "q")):
            self.refused(read_bus, text, what, BadMember, "what")
        self.refused(read_bus, "last 0; a; a; B", 3)

    def test_streams(self):
        for text, place in (("", 0), (" ", 0), ("1  2", 1), (" 1", 0), ("1 ", 1), ("1, 2", 0), ("none 1", 0),
                            ("1 none", 1),
                            ("None", 0), ("none ", 0), ("1 2 x", 2), ("2 1 x", 2), ("all", 0)):
            self.refused(read_stream, text, place)
        for text, place in (("1 1", 1), ("3 2", 1), ("-1 -2", 1), ("0 1 2 2 1", 3)):
            self.refused(read_stream, text, place, BadStream)

    def test_trains(self):
        for text, place in (("", 0), ("0", 1), ("0 | none", 2), ("0 | none | none", 3), ("0 | none | none | 0", 4),
                            ("0 | none | none | 0 | none | none", 5), ("0 | none | none | 0 | none | 1 | x", 5),
                            ("0 | none | none | 0 | none | ", 5), ("0 | none | none | 0 | none |", 4),
                            ("none | none | none | 0 | none", 0), ("0 | none | none | none | none", 3),
                            ("0 |  | none | 0 | none", 1), ("0 | none | none | 0 | ", 4), ("0|none|none|0|none", 0),
                            ("0 | none| none | 0 | none", 1), ("0 | 1  2 | none | 0 | none", 1),
                            ("0 | all | none | 0 | none", 1),
                            ("0 | 1 | none 2 | 0 | none", 2), ("0 1 | none | none | 0 | none", 0), ("0 | x", 1),
                            ("x | none | none | 0 | none | none", 0), ("0 | none | none | 0 | x | none", 4),
                            ("0 | none | none | 1 2 | none", 3), (" | none | none | 0 | none", 0),
                            ("0 | none | 1, 2 | 0 | none", 2)):
            self.refused(read_train, text, place)

    def test_trains_with_wrong_gaps_come_behind_all_forms(self):
        for text, what in (("0 | 0 | none | 0 | none", "head"), ("0 | 1 -2 | none | 0 | none", "head"),
                           ("0 | none | 3 0 | 0 | none", "block"), ("0 | none | none | -1 | none", "rounds"),
                           ("0 | none | none | 0 | 0", "end"), ("0 | none | 0 | -1 | 0", "block"),
                           ("0 | none | none | -1 | 0", "rounds")):
            self.refused(read_train, text, what, BadTrain, "what")
        self.refused(read_train, "0 | 0 | none | -1 | x", 4)
        self.refused(read_train, "0 | 0 | none | -1", 4)
        self.refused(read_train, "0 | 0 | none | -1 | 0 | 1", 5)

    def test_long_texts_are_read_soon(self):
        begin = time.monotonic()
        stream = list(range(10 ** 59, 10 ** 59 + 2000))
        self.assertEqual(read_stream(stream_text(stream)), stream)
        train = Train(0, [10 ** 59] * 400, [1], 10 ** 30, [])
        self.assertEqual(read_train(train_text(train)), train)
        for _ in range(2000):
            read_row("last 300, limit 50, delay 7")
            read_bus("a; last 3; b")
        self.assertLess(time.monotonic() - begin, 2)
