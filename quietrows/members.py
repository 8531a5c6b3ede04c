"""Streams, and the members that tell some of their events."""

from quietrows.errors import BadMember, BadStream
from quietrows.plain import is_listing, is_number


def check_stream(stream):
    """Raise BadStream with the first place at which this is not as a stream is."""
    if not is_listing(stream):
        raise BadStream(-1)
    for place, time in enumerate(stream):
        if not is_number(time) or (place > 0 and time <= stream[place - 1]):
            raise BadStream(place)


def check_least(number, least, what):
    if not is_number(number) or number < least:
        raise BadMember(what)


def stretches_from(heads, many):
    """Let each of these places speak for itself and all up to the next one of them.

    Like the method stretches of each member, this returns for each told event
    its place, and the first and the last place that it speaks for.
    """
    ends = [head - 1 for head in heads[1:]] + [many - 1]
    return [(head, head, end) for head, end in zip(heads, ends)]


class Last:
    """Tells an event q later, if no other one comes sooner than that behind it."""

    def __init__(self, q):
        check_least(q, 1, "q")
        self.q = q

    def __eq__(self, other):
        return isinstance(other, Last) and self.q == other.q

    def kind(self):
        return "last"

    def quiet(self):
        return self.q

    def lag(self):
        return self.q

    def stretches(self, times):
        found = []
        begin = 0
        for at, time in enumerate(times):
            if at + 1 == len(times) or times[at + 1] - time >= self.q:
                found.append((at, begin, at))
                begin = at + 1
        return found


class First:
    """Tells an event at once, if no other one came sooner than q ahead of it."""

    def __init__(self, q):
        check_least(q, 1, "q")
        self.q = q

    def __eq__(self, other):
        return isinstance(other, First) and self.q == other.q

    def kind(self):
        return "first"

    def quiet(self):
        return self.q

    def lag(self):
        return 0

    def stretches(self, times):
        heads = [at for at, time in enumerate(times) if at == 0 or time - times[at - 1] >= self.q]
        return stretches_from(heads, len(times))


class Limit:
    """Tells an event at once, if it told no other one sooner than q ahead of it."""

    def __init__(self, q):
        check_least(q, 1, "q")
        self.q = q

    def __eq__(self, other):
        return isinstance(other, Limit) and self.q == other.q

    def kind(self):
        return "limit"

    def quiet(self):
        return self.q

    def lag(self):
        return 0

    def stretches(self, times):
        heads = []
        for at, time in enumerate(times):
            if len(heads) == 0 or time - times[heads[-1]] >= self.q:
                heads.append(at)
        return stretches_from(heads, len(times))


class Delay:
    """Tells every event d later."""

    def __init__(self, d):
        check_least(d, 0, "d")
        self.d = d

    def __eq__(self, other):
        return isinstance(other, Delay) and self.d == other.d

    def quiet(self):
        # A delay asks for no quiet, and 0 is less than any quiet is.
        return 0

    def lag(self):
        return self.d

    def stretches(self, times):
        return [(at, at, at) for at in range(len(times))]


def is_member(thing):
    return isinstance(thing, (Last, First, Limit, Delay))
