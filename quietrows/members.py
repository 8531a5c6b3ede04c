"""Streams, and the members that tell some of their events.

Members with a quiet are asked what they keep: from the gaps of a stream with one
event or more, kept makes the list of the places of the events that they tell. From
these, begins makes, for some of them, the places where their stretches begin. A
Delay keeps all events and is never asked.
"""

from quietrows.errors import BadMember, BadStream
from quietrows.plain import is_listing, is_number


def check_stream(stream):
    """Raise BadStream with the first place at which this is not as a stream is."""
    if not is_listing(stream):
        raise BadStream(-1)
    before = None
    for place, time in enumerate(stream):
        # is_number, written out: calling it for each event would take most of the time.
        if not isinstance(time, int) or isinstance(time, bool) or (before is not None and time <= before):
            raise BadStream(place)
        before = time


def check_least(number, least, what):
    if not is_number(number) or number < least:
        raise BadMember(what)


class Last:
    """Tells an event q later, if no other one comes sooner than that behind it."""

    def __init__(self, q):
        check_least(q, 1, "q")
        self.q = q

    def __eq__(self, other):
        return isinstance(other, Last) and self.q == other.q

    def kind(self):
        return "last"

    def quiet(self):
        return self.q

    def lag(self):
        return self.q

    def kept(self, gaps):
        q = self.q
        return [place for place, gap in enumerate(gaps) if gap >= q] + [len(gaps)]

    def begins(self, places, chosen):
        # A stretch begins behind the event before that is kept.
        before = [-1] + places
        return [before[at] + 1 for at in chosen]


class First:
    """Tells an event at once, if no other one came sooner than q ahead of it."""

    def __init__(self, q):
        check_least(q, 1, "q")
        self.q = q

    def __eq__(self, other):
        return isinstance(other, First) and self.q == other.q

    def kind(self):
        return "first"

    def quiet(self):
        return self.q

    def lag(self):
        return 0

    def kept(self, gaps):
        q = self.q
        return [0] + [place for place, gap in enumerate(gaps, start=1) if gap >= q]

    def begins(self, places, chosen):
        return [places[at] for at in chosen]


class Limit:
    """Tells an event at once, if it told no other one sooner than q ahead of it."""

    def __init__(self, q):
        check_least(q, 1, "q")
        self.q = q

    def __eq__(self, other):
        return isinstance(other, Limit) and self.q == other.q

    def kind(self):
        return "limit"

    def quiet(self):
        return self.q

    def lag(self):
        return 0

    def kept(self, gaps):
        q = self.q
        found = [0]
        since = 0
        for place, gap in enumerate(gaps, start=1):
            since += gap
            if since >= q:
                found.append(place)
                since = 0
        return found

    def begins(self, places, chosen):
        return [places[at] for at in chosen]


class Delay:
    """Tells every event d later."""

    def __init__(self, d):
        check_least(d, 0, "d")
        self.d = d

    def __eq__(self, other):
        return isinstance(other, Delay) and self.d == other.d

    def quiet(self):
        # A delay asks for no quiet, and 0 is less than any quiet is.
        return 0

    def lag(self):
        return self.d


def is_member(thing):
    return isinstance(thing, (Last, First, Limit, Delay))
