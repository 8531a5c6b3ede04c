"""Rows of members, and what they tell of a stream."""

from quietrows.errors import BadRow
from quietrows.members import check_stream, is_member
from quietrows.plain import is_listing


class Row:
    """Members one behind the other: each gets what the one before it tells."""

    def __init__(self, members):
        if not is_listing(members):
            raise BadRow(-1)
        for index, member in enumerate(members):
            if not is_member(member):
                raise BadRow(index)
        self.members = tuple(members)

    def __eq__(self, other):
        return isinstance(other, Row) and self.members == other.members


def record_indexes(members):
    """Return the indexes of the members with a greater quiet than all before, from 2 on."""
    found = []
    greatest = 1
    for index, member in enumerate(members):
        if member.quiet() > greatest:
            greatest = member.quiet()
            found.append(index)
    return found


def records_of(members):
    return tuple([(members[index].kind(), members[index].quiet()) for index in record_indexes(members)])


def lag_of(members):
    return sum([member.lag() for member in members])


class Told:
    """An event that is told: its number, when, and the first and last event it speaks for."""

    def __init__(self, number, time, first, last):
        self.number = number
        self.time = time
        self.first = first
        self.last = last

    def __eq__(self, other):
        return (isinstance(other, Told) and self.number == other.number and self.time == other.time
                and self.first == other.first and self.last == other.last)


def gaps_of(times):
    return [later - time for time, later in zip(times, times[1:])]


def without(things, places):
    """Return the list of the things that are not at these places, which ascend."""
    # Where few are left out, whole slices are put together far sooner than things one by one.
    found = []
    begin = 0
    for place in places:
        if begin < place:
            found.extend(things[begin:place])
        begin = place + 1
    found.extend(things[begin:])
    return found


def without_behind(things, places):
    """Return the list of the things that are not just behind these places."""
    return things[:1] + without(things[1:], places)


def widened(gaps, places, toward):
    """Return the gaps that are left when those at these places are closed.

    Each of these widens the next gap before it if toward is -1, and behind it if it is 1.
    """
    # What is closed at an end of the stream widens but the 0 behind all gaps.
    wide = gaps + [0]
    for place in places[::toward]:
        wide[place + toward] += wide[place]
    return without(wide, places)[:-1]


def told_and_closed(members, stream):
    """Return the numbers of the told events, and for each member the places of the gaps that it closes.

    These are places among the gaps that the member gets.
    """
    numbers = list(range(len(stream)))
    closed = []
    gaps = gaps_of(stream)
    least = min(gaps, default=0)
    for member in members:
        places = []
        # Behind a record all gaps are as wide as its quiet, so that no idle member closes any.
        if len(gaps) > 0 and member.quiet() > least:
            places = member.closed(gaps)
            toward = -1 if member.kind() == "last" else 1
            numbers = without(numbers, places) if toward < 0 else without_behind(numbers, places)
            if 2 * len(places) < len(gaps):
                gaps = widened(gaps, places, toward)
            else:
                gaps = gaps_of([stream[number] for number in numbers])
            least = min(gaps, default=0)
        closed.append(places)
    return numbers, closed


def told_events(row, stream):
    """Return a Told for each event of the stream that the row tells."""
    check_stream(stream)
    numbers, closed = told_and_closed(row.members, stream)
    firsts = list(range(len(stream)))
    for places in closed:
        # Whichever of the two events is told, the later one's stretch begins no more.
        if len(places) > 0:
            firsts = without_behind(firsts, places)
    # The stretches are the whole stream, so each ends where the next one begins.
    lasts = [first - 1 for first in firsts[1:]] + [len(stream) - 1]
    lag = lag_of(row.members)
    return [Told(number, stream[number] + lag, first, last)
            for number, first, last in zip(numbers, firsts, lasts)]


def told_times(row, stream):
    """Return the times at which the row tells events of the stream."""
    check_stream(stream)
    return times_behind(row.members, stream)


def times_behind(members, stream):
    """Return the times that the members tell of what surely is a stream."""
    numbers, _ = told_and_closed(members, stream)
    lag = lag_of(members)
    return [stream[number] + lag for number in numbers]
