"""Rows whose events come one by one: when it is certain what becomes of each.

At a moment some events have come surely to a record, and what else may come to it
is known by its ways: a dict from the times of further known events, of which exactly
these are told so far, to the moments at which the next unknown event may come then.
These moments are bits of a number, from the first one behind the moment now on, as
far as a quiet may reach; at some later moments it may come in any case. Behind it,
further ones may come at will, with gaps of at least the greatest quiet so far.
"""

from quietrows.errors import NoBack, NoEvent, NotLater
from quietrows.members import check_stream
from quietrows.plain import is_number
from quietrows.rows import records_of


def patience(row):
    """Return the longest time for which it may be open whether the row tells an event."""
    return sum([quiet - 1 for kind, quiet in records_of(row.members) if kind == "last"])


def late_stream(row):
    """Return a stream and the number of an event that is open for as long as can be, or None."""
    quiets = [quiet for kind, quiet in records_of(row.members) if kind == "last"]
    if len(quiets) == 0:
        return None
    # Whether an event is dropped hangs on the next one, of which the Last ahead tells as late as it can.
    stream = [0]
    for quiet in quiets[:0:-1]:
        stream.append(stream[-1] + quiet - 1)
    return stream, 0


def certain_at(row, stream, number):
    """Return the first moment at which it is certain whether the row tells an event."""
    check_stream(stream)
    if not is_number(number) or number < 0 or number >= len(stream):
        raise NoEvent(number)
    event = stream[number]
    known = known_first(row).later(stream[:number + 1], event)
    if event not in known.open_times():
        return event
    # What is certain stays so: the event is open at low, and certain at high.
    low = event
    high = event + patience(row)
    while low + 1 < high:
        middle = (low + high) // 2
        if event in known.later(times_until(stream[number + 1:], middle), middle).open_times():
            low = middle
        else:
            high = middle
    return high


def open_at(row, stream, moment):
    """Return the numbers of the events that have come by the moment and are open then."""
    check_stream(stream)
    found = known_first(row).later(times_until(stream, moment), moment).open_times()
    return [number for number, time in enumerate(stream) if time in found]


def times_until(times, moment):
    return [time for time in times if time <= moment]


class Live:
    """A row that gets events as they come, and tells of each what becomes of it once that is certain."""

    def __init__(self, row):
        self.known = known_first(row)
        self.now = None
        self.numbers = {}
        self.open_now = []
        self.certain = {}
        # What the moments before were like, for each push and wait that can be undone.
        self.past = []

    def push(self, time):
        """Let an event come; return a pair (number, whether it is told) for each that is certain now."""
        if not is_number(time) or (self.now is not None and time <= self.now):
            raise NotLater(time)
        return self.let_come([time], time)

    def wait(self, time):
        """Let a moment come without an event; return the pairs as push does."""
        if not is_number(time) or (self.now is not None and time < self.now):
            raise NotLater(time)
        return self.let_come([], time)

    def moment_now(self):
        """Return the moment up to which all events are known, or None at first."""
        return self.now

    def open_events(self):
        """Return the numbers of the events that are open."""
        return [self.numbers[time] for time in self.open_now]

    def so_far(self):
        """Return a pair (number, whether it is told) for each event that is certain."""
        return sorted(self.certain.items())

    def undo(self):
        """Undo the last push or wait that is not undone."""
        if len(self.past) == 0:
            raise NoBack()
        self.known, self.now, self.open_now, times, numbers = self.past.pop()
        for time in times:
            del self.numbers[time]
        for number in numbers:
            del self.certain[number]

    def let_come(self, times, moment):
        known = self.known.later(times, moment)
        open_now = known.open_times()
        for time in times:
            self.numbers[time] = len(self.numbers)
        found = [(self.numbers[time], known.tells(time)) for time in self.open_now + times if time not in open_now]
        self.past.append((self.known, self.now, self.open_now, times, [number for number, _ in found]))
        for number, is_told in found:
            self.certain[number] = is_told
        self.known = known
        self.now = moment
        self.open_now = open_now
        return found


def known_first(row):
    """Return what is known of a row before all events."""
    records = records_of(row.members)
    return Known(records, (None,) * len(records), [], {(): 0})


class Known:
    """What is known at a moment of the events that have come to a row; it does not change.

    For each record it is held what later events need of those that surely came: by a
    Last the last one while it may be told or not, by a First the last one, and by a
    Limit the last one that it told; None if there is none.
    """

    def __init__(self, records, held, sure, ways):
        self.records = records
        self.held = held
        # The events that surely are told since the moment before, and the ways of what more is.
        self.sure = sure
        self.ways = ways

    def later(self, times, moment):
        """Return what is known at a moment up to which these events came, and no others."""
        passing = Passing(list(times), moment, max([1] + [quiet for _, quiet in self.records]))
        held = []
        for (kind, quiet), one in zip(self.records, self.held):
            held.append(passing.through(kind, quiet, one))
        return Known(self.records, tuple(held), passing.sure, passing.ways)

    def open_times(self):
        """Return the times of the open events."""
        found = []
        for way in self.ways:
            found.extend([time for time in way if time not in found])
        return sorted([time for time in found if not self.tells(time)])

    def tells(self, time):
        """Return whether an event is told whatever comes, for one that was not certain before."""
        return time in self.sure or all([time in way for way in self.ways])


class Passing:
    """Events on their way through the records: those told so far surely, and the ways of what more is."""

    def __init__(self, times, moment, horizon):
        self.sure = times
        self.begin = moment + 1
        self.horizon = horizon
        self.every = (1 << horizon) - 1
        # All gaps are at least as wide as this.
        self.least = 1
        self.ways = {(): self.every}

    def through(self, kind, quiet, held):
        """Let a record tell what it gets; return what it holds then."""
        if kind == "last":
            held = self.through_last(quiet, held)
        else:
            held = self.through_early(kind, quiet, held)
        self.least = quiet
        return held

    def through_early(self, kind, quiet, held):
        """Let a First or a Limit tell what it gets, which it always does at once."""
        self.sure, held = told_early(kind, quiet, held, self.sure)
        found = {}
        for way, coming in self.ways.items():
            more, last = told_early(kind, quiet, held, way)
            if last is not None:
                coming = self.coming_early(kind, quiet, last, coming)
            found[tuple(more)] = found.get(tuple(more), 0) | coming
        self.ways = found
        return held

    def coming_early(self, kind, quiet, last, coming):
        """Return the moments at which a First or a Limit may tell the next event, behind what it holds."""
        edge = max(0, last + quiet - self.begin)
        near = coming & ((1 << edge) - 1)
        if near == 0:
            return coming
        # If the next one is dropped, the first that is told may be any one behind that.
        dropped = (near & -near).bit_length() - 1
        free = max(edge, dropped + (quiet if kind == "first" else self.least))
        return (coming ^ near) | (self.every >> free << free)

    def through_last(self, quiet, held):
        """Let a Last tell what it gets."""
        got = self.sure if held is None else [held] + self.sure
        found = {}
        for way, coming in self.ways.items():
            times = (*got[-1:], *way)
            told = told_late(quiet, times)
            edge = max(0, times[-1] + quiet - self.begin) if len(times) > 0 else 0
            near = coming & ((1 << edge) - 1)
            if near > 0:
                found[told] = found.get(told, 0) | near
            told = told + times[-1:]
            found[told] = found.get(told, 0) | (coming ^ near)
        self.sure = list(told_late(quiet, got))
        self.ways = {way: chained(coming, self.least, quiet - 1, self.horizon) for way, coming in found.items()}
        return self.still_held(got[-1:])

    def still_held(self, last):
        """Return the last event that surely came to a Last, or None if it surely is told or not."""
        begun = [way[:1] == tuple(last) for way in self.ways]
        if len(last) == 0 or not any(begun):
            return None
        if not all(begun):
            return last[0]
        self.sure = self.sure + last
        self.ways = {way[1:]: coming for way, coming in self.ways.items()}
        return None


def told_early(kind, quiet, held, times):
    """Return what a First or a Limit tells of these, and what it holds then."""
    told = []
    for time in times:
        is_told = held is None or time - held >= quiet
        if is_told:
            told.append(time)
        if is_told or kind == "first":
            held = time
    return told, held


def told_late(quiet, times):
    """Return what a Last tells of these but the last one."""
    return tuple([time for time, later in zip(times, times[1:]) if later - time >= quiet])


def chained(coming, least, most, horizon):
    """Return where chains of gaps from least to most may end that begin at these moments."""
    every = (1 << horizon) - 1
    low = coming & -coming
    if coming + low == every + 1:
        return coming
    if least == 1:
        return every ^ (low - 1) if coming > 0 else 0
    step = least
    more = most - least
    # Chains of so many gaps, for each number of them, are made from chains of 1, 2, 4 .. gaps.
    while step < horizon:
        coming = coming | spread(coming << step & every, min(more + 1, horizon)) & every
        step *= 2
        more *= 2
    return coming


def spread(coming, many):
    """Return so many moments from each of these on."""
    done = 1
    while done < many:
        more = min(done, many - done)
        coming |= coming << more
        done += more
    return coming
