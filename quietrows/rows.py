"""Rows of members, and what they tell of a stream."""

from quietrows.errors import BadRow
from quietrows.members import check_stream, is_member
from quietrows.plain import is_listing


class Row:
    """Members one behind the other: each gets what the one before it tells."""

    def __init__(self, members):
        if not is_listing(members):
            raise BadRow(-1)
        for index, member in enumerate(members):
            if not is_member(member):
                raise BadRow(index)
        self.members = tuple(members)

    def __eq__(self, other):
        return isinstance(other, Row) and self.members == other.members


def record_indexes(members):
    """Return the indexes of the members with a greater quiet than all before, from 2 on."""
    found = []
    greatest = 1
    for index, member in enumerate(members):
        if member.quiet() > greatest:
            greatest = member.quiet()
            found.append(index)
    return found


def records_of(members):
    return tuple([(members[index].kind(), members[index].quiet()) for index in record_indexes(members)])


def lag_of(members):
    return sum([member.lag() for member in members])


class Told:
    """An event that is told: its number, when, and the first and last event it speaks for."""

    def __init__(self, number, time, first, last):
        self.number = number
        self.time = time
        self.first = first
        self.last = last

    def __eq__(self, other):
        return (isinstance(other, Told) and self.number == other.number and self.time == other.time
                and self.first == other.first and self.last == other.last)


def gaps_of(times):
    return [later - time for time, later in zip(times, times[1:])]


def kept_by_members(members, times):
    """Return the times of the events that the members keep, and how they came to be kept.

    That is, for each member that keeps not all that it gets, the member and the
    places of those that it keeps. Each event has its own time, without delays.
    """
    steps = []
    gaps = gaps_of(times)
    # A member that is no record, or whose quiet is no greater than any gap, keeps all.
    for index in record_indexes(members):
        member = members[index]
        if member.quiet() > min(gaps, default=member.quiet()):
            places = member.kept(gaps)
            times = [times[place] for place in places]
            gaps = gaps_of(times)
            steps.append((member, places))
    return times, steps


def told_events(row, stream):
    """Return a Told for each event of the stream that the row tells."""
    check_stream(stream)
    times, steps = kept_by_members(row.members, stream)
    numbers = list(range(len(times)))
    firsts = numbers
    # Back from the told events, so that nothing is worked out for those that are not told.
    for member, places in steps[::-1]:
        numbers = [places[at] for at in numbers]
        firsts = member.begins(places, firsts)
    # The stretches are the whole stream, so each ends where the next one begins.
    lasts = [first - 1 for first in firsts[1:]] + [len(stream) - 1]
    lag = lag_of(row.members)
    return [Told(number, time + lag, first, last)
            for number, time, first, last in zip(numbers, times, firsts, lasts)]


def told_times(row, stream):
    """Return the times at which the row tells events of the stream."""
    check_stream(stream)
    times, _ = kept_by_members(row.members, stream)
    lag = lag_of(row.members)
    return [time + lag for time in times]
