"""Which rows lead from a stream to the events that were told of it.

Behind a record all gaps of what is left are at least its quiet. So a further
record changes something only if its quiet is greater than the least gap left,
and is then greater than all quiets before it. How rows go on depends thus on the
events that are left alone, which are kept as tuples of their numbers.
"""

from itertools import product

from quietrows.errors import BadNumbers, Large
from quietrows.members import check_stream
from quietrows.plain import is_listing, is_number
from quietrows.rows import gaps_of

MOST_COUNTED = 300
MOST_TOLD_APART = 4


def check_numbers(numbers, many):
    """Raise BadNumbers with the first place at which these are not ascending numbers of events."""
    if not is_listing(numbers):
        raise BadNumbers(-1)
    before = -1
    for place, number in enumerate(numbers):
        if not is_number(number) or number <= before or number >= many:
            raise BadNumbers(place)
        before = number


def count_leading(stream, numbers, most):
    """Return how many rows of records, with quiets up to the most, tell exactly these events of a stream."""
    check_stream(stream)
    check_numbers(numbers, len(stream))
    if most > MOST_COUNTED:
        raise Large(most)
    # A quiet below 2 makes no record, so that only the row without records is left.
    leads = Leads(stream, numbers, max(most, 1))
    if leads.is_vain():
        return 0
    every = tuple(range(len(stream)))
    return idle_rows(leads.idle_until(every) - 1) * leads.ways_on(every)


def least_leading(stream, numbers, most):
    """Return the fewest records that tell exactly these events of a stream, as a tuple of pairs, or None."""
    check_stream(stream)
    check_numbers(numbers, len(stream))
    leads = Leads(stream, numbers, most)
    if leads.is_vain():
        return None
    return leads.least_on(tuple(range(len(stream))))


def idle_rows(many):
    """Return how many rows of records there are with quiets from so many alone."""
    # There is no record with a quiet, or one of three kinds.
    return 1 << 2 * many


class Leads:
    """What leads from a stream to told events, by records with quiets up to the most.

    What was found out for the events that are left is kept, as many ways go by them.
    """

    def __init__(self, stream, numbers, most):
        self.stream = tuple(stream)
        self.wanted = tuple(numbers)
        self.most = most
        self.ways = {}
        self.best = {}

    def is_vain(self):
        # Of every stream with events a row tells one at least.
        return len(self.wanted) == 0 and len(self.stream) > 0

    def gaps_left(self, left):
        return gaps_of([self.stream[number] for number in left])

    def idle_until(self, left):
        """Return the greatest quiet of records that tell all events left."""
        return min([self.most] + self.gaps_left(left))

    def ways_on(self, left):
        """Return how many rows of records that are not idle at first lead from these events to those wanted."""
        if left == self.wanted:
            return 1
        if left not in self.ways:
            many = 0
            for _, low, high, after in self.steps_on(left):
                many += self.starts(low, min(high, self.most), self.idle_until(after)) * self.ways_on(after)
            self.ways[left] = many
        return self.ways[left]

    def starts(self, low, high, idle):
        """Return how many rows begin with one record of a kind from low to high, and have idle ones behind it."""
        begun = (idle_rows(high - low + 1) - 1) // 3
        return begun * idle_rows(idle - high)

    def least_on(self, left):
        """Return the least records that lead from these events to those wanted, or None."""
        if left == self.wanted:
            return ()
        if left not in self.best:
            best = None
            for kind, low, _, after in self.steps_on(left):
                rest = self.least_on(after)
                if rest is None:
                    continue
                found = ((kind, low),) + rest
                if best is None or (len(found), found) < (len(best), best):
                    best = found
            self.best[left] = best
        return self.best[left]

    def steps_on(self, left):
        """Return a list of (kind, low, high, after) for all records that tell less, but all events wanted.

        Exactly the events after are left by records of this kind with quiets from low to high.
        """
        gaps = self.gaps_left(left)
        if len(gaps) == 0:
            return []
        behind = [gap for number, gap in zip(left, gaps) if number in self.wanted]
        ahead = [gap for number, gap in zip(left[1:], gaps) if number in self.wanted]
        found = []
        for low, high in self.ranges(gaps, min(ahead, default=None)):
            found.append(("first", low, high,
                          left[:1] + tuple([number for number, gap in zip(left[1:], gaps) if gap >= low])))
        for low, high in self.ranges(gaps, min(behind, default=None)):
            found.append(("last", low, high,
                          tuple([number for number, gap in zip(left, gaps) if gap >= low]) + left[-1:]))
        return found + self.limits_on(left, gaps)

    def ranges(self, gaps, spared):
        """Return (low, high) for all quiets that close the same gaps, but none from the spared one on."""
        found = []
        quiets = sorted(set(gaps))
        for gap, high in zip(quiets, quiets[1:] + [self.most]):
            if gap >= self.most or (spared is not None and gap >= spared):
                break
            found.append((gap + 1, high))
        return found

    def limits_on(self, left, gaps):
        found = []
        low = min(gaps) + 1
        while low <= self.most:
            after, high = limited(left, gaps, low)
            if high is None:
                high = self.most
            if all([number in after for number in self.wanted]):
                found.append(("limit", low, high, after))
            low = high + 1
        return found


def limited(left, gaps, quiet):
    """Return what a limit leaves of events, and the greatest quiet that leaves the same, None if all do."""
    after = list(left[:1])
    least = None
    since = 0
    for number, gap in zip(left[1:], gaps):
        since += gap
        if since >= quiet:
            after.append(number)
            if least is None or since < least:
                least = since
            since = 0
    return tuple(after), least


def telling_stream(most):
    """Return a stream of which all rows tell unlike times if their records, with quiets up to the most, are unlike."""
    if not is_number(most) or most < 1 or most > MOST_TOLD_APART:
        raise Large(most)
    stream = [0]
    # Three gaps are enough to part any two such rows; behind a gap as wide as the most all begins anew.
    for gaps in product(range(1, most), range(1, most), range(1, most)):
        for gap in [*gaps, most]:
            stream.append(stream[-1] + gap)
    return stream
