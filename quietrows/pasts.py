"""Which times a row can tell, and how many streams lead to them.

A stream that leads to given times has one part before the first told event, one
between each two of them, and one behind the last. The parts do not matter to one
another, and how many ways there are for one depends on its length alone. So for
each length up to the longest, Ways holds how many ways there are.
"""

from quietrows.errors import Large
from quietrows.members import check_stream
from quietrows.rows import gaps_of, lag_of, records_of

MOST_TIMES = 300


def are_wide(gaps, records):
    """Return whether the gaps are at least the greatest of the records' quiets."""
    # Quiets ascend, so the last one is the greatest.
    return len(gaps) == 0 or len(records) == 0 or min(gaps) >= records[-1][1]


def can_tell(row, times):
    """Return whether there is a stream of which the row tells exactly these times."""
    check_stream(times)
    return are_wide(gaps_of(times), records_of(row.members))


def count_pasts(row, times, begin, end):
    """Return the number of streams from begin to end of which the row tells exactly these times."""
    check_stream(times)
    many = end - begin + 1
    if many > MOST_TIMES:
        raise Large(many)
    if len(times) == 0:
        return 1
    lag = lag_of(row.members)
    before = times[0] - lag - begin
    behind = end - (times[-1] - lag)
    gaps = gaps_of(times)
    records = records_of(row.members)
    if before < 0 or behind < 0 or not are_wide(gaps, records):
        return 0
    ways = Ways(max([before, behind] + gaps) + 1)
    for kind, quiet in records:
        ways.add_record(kind, quiet)
    count = ways.before[before] * ways.behind[behind]
    for gap in gaps:
        count *= ways.between[gap]
    return count


class Ways:
    """For each length below a limit, the ways of the events before, between and behind told ones.

    The length before is from the earliest time on to the first told event,
    the one behind from the last told event to the latest time.
    """

    def __init__(self, many):
        self.before = [1] * many
        self.between = [0] + [1] * (many - 1)
        self.behind = [1] * many

    def add_record(self, kind, quiet):
        """Put a record behind the row, so that some of the events told so far are told no more."""
        many = len(self.between)
        # No length is greater, and a list cannot be made as long as a quiet may be.
        quiet = min(quiet, many)
        gaps = self.between[:quiet]
        if kind == "limit":
            # Told no more are all that come within the quiet behind a told one.
            near = chains(gaps, quiet)
            self.between = [0] * quiet + joined(near, self.between)[quiet:]
        else:
            # Told no more are those in chains of gaps below the quiet.
            near = chains(gaps, many)
            self.between = joined(near, [0] * quiet + self.between[quiet:])
        if kind == "last":
            self.before = joined(near, self.before)
        else:
            self.behind = joined(near, self.behind)


def joined(ways, others):
    """Return the ways of two parts, one behind the other, for each length of the others."""
    return [sum([one * other for one, other in zip(ways, others[length::-1])]) for length in range(len(others))]


def chains(gaps, many):
    """Return the ways of chains of gaps, for each length below a limit."""
    found = [1]
    for _ in range(1, many):
        found.append(sum([one * other for one, other in zip(gaps[1:], found[::-1])]))
    return found
