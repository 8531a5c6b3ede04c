"""The document's examples for the modules there are, each with its last line."""

import unittest

from quietrows.busses import Bus, bus_places, same_busses, told_by
from quietrows.desk import Desk
from quietrows.errors import BadMember, BadStream, BadText, Large, Mixed
from quietrows.far import numbers_told, train_told
from quietrows.finding import Finder
from quietrows.forms import idle_members, is_contained, normal_form, same_rows
from quietrows.leading import count_leading, least_leading
from quietrows.live import Live, certain_at, patience
from quietrows.members import Delay, First, Last, Limit, check_stream
from quietrows.parted import parting
from quietrows.pasts import can_tell, count_pasts
from quietrows.quiettexts import read_row, row_text
from quietrows.rows import Row, told_events, told_times
from quietrows.timing import row_timers
from quietrows.trains import Train, amount_of, event_at, events_until, train_events


class Examples(unittest.TestCase):

    def test_told_events(self):
        found = told_events(Row([Last(3), First(20)]), [0, 1, 2, 9, 10, 30])
        self.assertEqual([(one.number, one.time, one.first, one.last) for one in found],
                         [(2, 5, 0, 4), (5, 33, 5, 5)])

    def test_told_times(self):
        self.assertEqual(
            (told_times(Row([Limit(2), Limit(3)]), [0, 2, 3, 5]), told_times(Row([Limit(3)]), [0, 2, 3, 5])),
            ([0, 5], [0, 3]))

    def test_bad_member(self):
        with self.assertRaises(BadMember) as caught:
            Last(0)
        self.assertEqual(caught.exception.what, "q")

    def test_bad_stream(self):
        with self.assertRaises(BadStream) as caught:
            check_stream([3, 3])
        self.assertEqual(caught.exception.place, 1)

    def test_normal_form(self):
        row = Row([Last(5), First(3), First(5), Delay(2), Limit(7)])
        form = normal_form(row)
        self.assertEqual((form.records, form.delay, idle_members(row)),
                         ((("last", 5), ("limit", 7)), 7, [1, 2, 3]))

    def test_same_rows(self):
        self.assertIs(same_rows(Row([Last(3), Last(3)]), Row([Delay(3), Last(3)])), True)

    def test_rows_that_part(self):
        row = Row([Last(2), Last(3)])
        other = Row([Delay(2), Last(3)])
        self.assertIs(same_rows(row, other), False)
        self.assertNotEqual(told_times(row, [0, 2, 4, 5, 7, 9]), told_times(other, [0, 2, 4, 5, 7, 9]))
        stream = train_events(parting(row, other))
        self.assertIs(told_times(row, stream) == told_times(other, stream), False)

    def test_is_contained(self):
        self.assertEqual((is_contained(Row([Last(9)]), Row([Last(2), Last(9)])),
                          is_contained(Row([Last(2), Last(9)]), Row([Last(9)]))), (True, False))

    def test_mixed(self):
        with self.assertRaises(Mixed) as caught:
            is_contained(Row([Limit(3)]), Row([]))
        self.assertEqual(vars(caught.exception), {})

    def test_pasts(self):
        self.assertEqual((can_tell(Row([Last(3)]), [0, 2]), count_pasts(Row([Last(2)]), [2, 5], 0, 3)), (False, 2))

    def test_train(self):
        train = Train(0, [1], [5, 2], 3, [4])
        self.assertEqual((amount_of(train), event_at(train, 8), events_until(train, 13)), (9, 26, 5))

    def test_far(self):
        row = Row([First(3)])
        train = Train(0, [], [1, 5], 10 ** 30, [])
        found = train_told(row, train)
        self.assertEqual((amount_of(found) == 10 ** 30 + 1, event_at(found, 10 ** 30) == 6 * 10 ** 30,
                          numbers_told(row, train, 1).number), (True, True, 2))

    def test_leading(self):
        self.assertEqual((count_leading([0, 1, 3], [2], 3), least_leading([0, 1, 3], [2], 3)), (2, (("last", 3),)))

    def test_finder(self):
        with self.assertRaises(Large) as caught:
            Finder(61)
        self.assertEqual(caught.exception.count, 61)

    def test_told_by(self):
        streams = [("a", [0, 1]), ("b", [-1])]
        self.assertEqual((told_by(Bus(["a", Last(2), "b", Last(4)]), streams),
                          told_by(Bus(["a", Delay(2), "b", Last(4)]), streams)), ([3, 7], [7]))

    def test_bus_places(self):
        found = bus_places(Bus(["b", Delay(3), "a", Last(2), First(2), "c", Limit(9)]))
        self.assertEqual((found.inputs, found.segments),
                         (((("a", 2), ("b", 5)), (("c", 0),)), ((("last", 2),), (("limit", 9),))))

    def test_same_busses(self):
        rows = same_rows(Row([Last(3), Last(2)]), Row([Last(3), Delay(2)]))
        self.assertEqual((rows, same_busses(Bus(["a", Last(3), "b", Last(2)]), Bus(["a", Last(3), "b", Delay(2)]))),
                         (True, False))

    def test_patience_and_moments(self):
        self.assertEqual((patience(Row([Last(3), First(4), Last(6)])), certain_at(Row([Last(3), Last(6)]), [0, 5], 0),
                          certain_at(Row([First(3), Last(5)]), [0, 2, 3], 0)), (7, 7, 2))

    def test_live(self):
        live = Live(Row([Last(3)]))
        self.assertEqual((live.push(0), live.push(2), live.wait(4)), ([], [(0, False)], [(1, True)]))

    def test_timers(self):
        found = row_timers(Row([First(2), Last(3)]), [0, 1, 5, 7])
        self.assertEqual([(one.index, one.started, one.stopped, one.rung) for one in found], [(1, 3, 1, 2)])

    def test_row_text(self):
        self.assertEqual(row_text(Row([Last(300), Limit(50), Delay(7)])), "last 300, limit 50, delay 7")

    def test_read_row(self):
        with self.assertRaises(BadText) as caught:
            read_row("last 3, last")
        self.assertEqual(caught.exception.place, 1)

    def test_desk(self):
        desk = Desk()
        desk.tell("row r: last 3, last 2")
        desk.tell("stream s: 0 1 5")
        self.assertEqual((desk.tell("tell r s"), desk.tell("normal r"), desk.tell("show q")),
                         (["6 10"], ["last 3, delay 2"], ["refused noname"]))
