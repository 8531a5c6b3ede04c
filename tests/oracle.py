"""What rows tell, worked out event by event in the words of the document.

It is slow on purpose and shares no code with the package: rows are tuples of
pairs (kind, number), with "delay" as the kind of delays.
"""

from itertools import product

from quietrows.busses import Bus
from quietrows.members import Delay, First, Last, Limit
from quietrows.rows import Row

MAKERS = {"last": Last, "first": First, "limit": Limit, "delay": Delay}


def made(pairs):
    return Row([MAKERS[kind](number) for kind, number in pairs])


def tells(kind, quiet, times, at, before):
    """Whether a member tells the event at a place, if it told those at the places before."""
    if kind == "last":
        return all(times[at] + quiet <= later for later in times[at + 1:at + 2])
    if kind == "first":
        return all(earlier + quiet <= times[at] for earlier in times[:at][-1:])
    if kind == "limit":
        return all(times[place] + quiet <= times[at] for place in before[-1:])
    return True


def passed(kind, number, events):
    """The events that a member tells, and the speaker of each event, by the numbers."""
    times = [time for _, time in events]
    before = []
    for at in range(len(events)):
        if tells(kind, number, times, at, before):
            before.append(at)
    speakers = {}
    for at, (event, _) in enumerate(events):
        if kind == "last":
            speakers[event] = events[min(place for place in before if place >= at)][0]
        else:
            speakers[event] = events[max(place for place in before if place <= at)][0]
    later = number if kind in ("last", "delay") else 0
    return [(events[at][0], events[at][1] + later) for at in before], speakers


def told(pairs, stream):
    """All (number, time, first, last) that a row tells of a stream."""
    events = list(enumerate(stream))
    speakers = {number: number for number, _ in events}
    for kind, number in pairs:
        events, step = passed(kind, number, events)
        speakers = {event: step[speaker] for event, speaker in speakers.items()}
    found = []
    for number, time in events:
        spoken = [event for event, speaker in speakers.items() if speaker == number]
        found.append((number, time, min(spoken), max(spoken)))
    return found


def told_of_long(pairs, stream):
    """The same as told, in one pass for each member, so that long streams can be held against it."""
    # An event that is still told: its number, its time, and the first and the last one it speaks for.
    events = [[number, time, number, number] for number, time in enumerate(stream)]
    for kind, quiet in pairs:
        kept, unspoken, last_gotten = [], None, None
        for at, (number, time, first, last) in enumerate(events):
            if kind == "last":
                tells_it = at + 1 == len(events) or events[at + 1][1] >= time + quiet
                unspoken = first if unspoken is None else unspoken
                if tells_it:
                    kept.append([number, time, unspoken, last])
                    unspoken = None
                continue
            since = last_gotten if kind == "first" else kept[-1][1] if kept else None
            if kind == "delay" or since is None or since + quiet <= time:
                kept.append([number, time, first, last])
            else:
                kept[-1][3] = last
            last_gotten = time
        lag = quiet if kind in ("last", "delay") else 0
        events = [[number, time + lag, first, last] for number, time, first, last in kept]
    return [tuple(event) for event in events]


def short_streams(greatest, most):
    """All streams from 0 on with at most so many gaps, each at most the greatest."""
    found = [()]
    for many in range(most + 1):
        for gaps in product(range(1, greatest + 1), repeat=many):
            found.append(tuple(sum(gaps[:place]) for place in range(many + 1)))
    return found


def all_rows(pairs, most):
    return [row for many in range(most + 1) for row in product(pairs, repeat=many)]


def bus_made(steps):
    """The bus of steps that are names or pairs (kind, number)."""
    return Bus([step if isinstance(step, str) else MAKERS[step[0]](step[1]) for step in steps])


def bus_told(steps, streams):
    """The times that a bus of such steps tells, walked step by step."""
    coming = dict(streams)
    times = []
    for step in steps:
        if isinstance(step, str):
            times = sorted(set(times) | set(coming.get(step, ())))
        else:
            times = [time for _, time in passed(step[0], step[1], list(enumerate(times)))[0]]
    return times
