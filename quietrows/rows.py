"""Rows of members, and what they tell of a stream."""

from quietrows.errors import BadRow
from quietrows.members import check_stream, is_member
from quietrows.plain import is_listing


class Row:
    """Members one behind the other: each gets what the one before it tells."""

    def __init__(self, members):
        if not is_listing(members):
            raise BadRow(-1)
        for index, member in enumerate(members):
            if not is_member(member):
                raise BadRow(index)
        self.members = tuple(members)

    def __eq__(self, other):
        return isinstance(other, Row) and self.members == other.members


def record_indexes(members):
    """Return the indexes of the members with a greater quiet than all before, from 2 on."""
    found = []
    greatest = 1
    for index, member in enumerate(members):
        if member.quiet() > greatest:
            greatest = member.quiet()
            found.append(index)
    return found


def records_of(members):
    return tuple([(members[index].kind(), members[index].quiet()) for index in record_indexes(members)])


def lag_of(members):
    return sum([member.lag() for member in members])


class Told:
    """An event that is told: its number, when, and the first and last event it speaks for."""

    def __init__(self, number, time, first, last):
        self.number = number
        self.time = time
        self.first = first
        self.last = last

    def __eq__(self, other):
        return (isinstance(other, Told) and self.number == other.number and self.time == other.time
                and self.first == other.first and self.last == other.last)


def told_events(row, stream):
    """Return a Told for each event of the stream that the row tells."""
    check_stream(stream)
    events = [Told(number, time, number, number) for number, time in enumerate(stream)]
    for member in row.members:
        events = told_by_member(member, events)
    return events


def told_by_member(member, events):
    lag = member.lag()
    stretches = member.stretches([event.time for event in events])
    return [told_for(events, stretch, lag) for stretch in stretches]


def told_for(events, stretch, lag):
    # Speakers of neighbours are neighbours, so the ends of a stretch are enough.
    at, begin, end = stretch
    return Told(events[at].number, events[at].time + lag, events[begin].first, events[end].last)


def told_times(row, stream):
    """Return the times at which the row tells events of the stream."""
    return [event.time for event in told_events(row, stream)]
