"""Streams, and the members that tell some of their events.

A member with a quiet closes some gaps of a stream: of the two events at the ends
of such a gap, Last drops the earlier one, and First and Limit drop the later one.
All other events are told. From the list of gaps, the method closed makes that of
the places of those that are closed.
"""

from quietrows.errors import BadMember, BadStream
from quietrows.plain import is_listing, is_number


def check_stream(stream):
    """Raise BadStream with the first place at which this is not as a stream is."""
    if not is_listing(stream):
        raise BadStream(-1)
    before = None
    for place, time in enumerate(stream):
        # is_number is written out here, because calls for each event would take most of the time for long streams.
        if not isinstance(time, int) or time is True or time is False or (before is not None and time <= before):
            raise BadStream(place)
        before = time


def check_least(number, least, what):
    if not is_number(number) or number < least:
        raise BadMember(what)


def narrow_ones(gaps, quiet):
    return [place for place, gap in enumerate(gaps) if gap < quiet]


class Last:
    """Tells an event q later, if no other one comes sooner than that behind it."""

    def __init__(self, q):
        check_least(q, 1, "q")
        self.q = q

    def __eq__(self, other):
        return isinstance(other, Last) and self.q == other.q

    def kind(self):
        return "last"

    def quiet(self):
        return self.q

    def lag(self):
        return self.q

    def closed(self, gaps):
        return narrow_ones(gaps, self.q)


class First:
    """Tells an event at once, if no other one came sooner than q ahead of it."""

    def __init__(self, q):
        check_least(q, 1, "q")
        self.q = q

    def __eq__(self, other):
        return isinstance(other, First) and self.q == other.q

    def kind(self):
        return "first"

    def quiet(self):
        return self.q

    def lag(self):
        return 0

    def closed(self, gaps):
        return narrow_ones(gaps, self.q)


class Limit:
    """Tells an event at once, if it told no other one sooner than q ahead of it."""

    def __init__(self, q):
        check_least(q, 1, "q")
        self.q = q

    def __eq__(self, other):
        return isinstance(other, Limit) and self.q == other.q

    def kind(self):
        return "limit"

    def quiet(self):
        return self.q

    def lag(self):
        return 0

    def closed(self, gaps):
        q = self.q
        found = []
        since = 0
        for place, gap in enumerate(gaps):
            since += gap
            if since < q:
                found.append(place)
            else:
                since = 0
        return found


class Delay:
    """Tells every event d later."""

    def __init__(self, d):
        check_least(d, 0, "d")
        self.d = d

    def __eq__(self, other):
        return isinstance(other, Delay) and self.d == other.d

    def quiet(self):
        # A delay asks for no quiet, and 0 is less than any quiet is.
        return 0

    def lag(self):
        return self.d


def is_member(thing):
    return isinstance(thing, (Last, First, Limit, Delay))
