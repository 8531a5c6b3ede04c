"""Streams of one or two inputs that part two busses which do not do the same.

If the rows behind each input do the same, busses are unlike in what one input goes
through before another one comes in. Then two events of the early input come so near
that the greatest of these records leaves one of them, and one event of the late
input on one side shows how many were left: for behind both there is a record with
the same quiet. All gaps are too wide for lesser records, and what greater records
behind would undo is kept by further events of the late input, as it is for rows.
"""

from itertools import accumulate

from quietrows.busses import bus_places, check_same_inputs, names_of, segments_of
from quietrows.errors import Large
from quietrows.parted import gaps_ahead, gaps_around, parting_gaps
from quietrows.rows import lag_of, records_of

GREATEST_QUIET = 40


def parting_inputs(bus, other):
    """Return at most two pairs (name, stream) for which two busses do not tell the same, or None."""
    check_same_inputs(bus, other)
    places, others = bus_places(bus), bus_places(other)
    greatest = max([0] + [quiet for records in places.segments + others.segments for _, quiet in records])
    if greatest > GREATEST_QUIET:
        raise Large(greatest)
    if places == others:
        return None
    names = sorted(names_of(bus))
    for name in names:
        stream = parting_stream(members_behind(bus, name), members_behind(other, name))
        if len(stream) > 0:
            return [(name, stream)]
    for at, name in enumerate(names):
        for mate in names[at + 1:]:
            found = parting_two(Two(bus, name, mate), Two(other, name, mate))
            if len(found) > 0:
                return sent_ahead(bus, found)
    return None


def members_behind(bus, name):
    """Return all members behind an input."""
    found = []
    behind = False
    for begun, members in segments_of(bus):
        behind = behind or begun == name
        if behind:
            found.extend(members)
    return found


def parting_stream(members, others):
    """Return a stream of which two rows tell unlike times, without events if they do the same."""
    if lag_of(members) != lag_of(others):
        return [0]
    records, mates = records_of(members), records_of(others)
    if records == mates:
        return []
    return list(accumulate([0] + parting_gaps(records, mates)))


class Two:
    """What two inputs of a bus go through: the early one alone, and both."""

    def __init__(self, bus, name, mate):
        self.early, self.late = [one for one in names_of(bus) if one in (name, mate)]
        members = members_behind(bus, self.early)
        behind = members_behind(bus, self.late)
        self.alone = records_of(members[:len(members) - len(behind)])
        self.common = records_of(behind)


def parting_two(two, another):
    """Return pairs (name, times) of arrivals that part two busses of two inputs, none if they do the same."""
    if len(two.alone) == 0 or len(another.alone) == 0 or two.early == another.early:
        # Inputs at the same place are as well in one order as in the other one.
        if two.alone == another.alone:
            return []
        # The lesser of both are the first records of the other ones.
        return seen_by_late(two if len(two.alone) > len(another.alone) else another)
    kind, quiet = two.alone[-1]
    other_kind, other_quiet = another.alone[-1]
    if kind == other_kind or quiet != other_quiet:
        return seen_by_late(two if quiet > other_quiet else another)
    # Each input comes in ahead of the other one once, and has the same delay in both busses, so that
    # no Last is passed alone. Of three events, a First tells the first alone, and a Limit also the last.
    near = quiet - 1
    before, after = kept_beside(2 * near, gaps_around(2 * near, two.common))
    return [(two.early, [0, 2 * near]), (two.late, before + [near] + after)]


def seen_by_late(two):
    """Return arrivals of which the last record that the early input goes through alone leaves but one of two."""
    kind, quiet = two.alone[-1]
    near = quiet - 1
    if kind == "last":
        before, after = kept_beside(2 * near, (gaps_ahead(2 * near, two.common), []))
    else:
        before, after = kept_beside(2 * near, gaps_around(2 * near, two.common))
    if kind == "first":
        return [(two.early, [0, near]), (two.late, before + [2 * near] + after)]
    return [(two.early, [near, 2 * near]), (two.late, before + [0] + after)]


def kept_beside(length, gaps):
    """Return the times of the events with these gaps ahead of 0, and behind this length."""
    ahead, behind = gaps
    return list(accumulate([-sum(ahead)] + ahead))[:-1], list(accumulate([length] + behind))[1:]


def sent_ahead(bus, arrivals):
    """Return the pairs by ascending names, with the times at which events must come in to arrive then."""
    found = []
    for name, times in sorted(arrivals):
        delay = lag_of(members_behind(bus, name))
        found.append((name, [time - delay for time in times]))
    return found
