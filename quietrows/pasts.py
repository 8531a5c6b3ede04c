"""Which times a row can tell, and how many streams lead to them.

A stream that leads to given times has one part before the first told event, one
between each two of them, and one behind the last. The parts do not matter to one
another, and how many ways there are for one depends on its length alone. So Ways
holds how many ways there are for each length up to the longest that matters.
"""

from quietrows.errors import Large
from quietrows.members import check_stream
from quietrows.rows import gaps_of, lag_of, records_of

MOST_TIMES = 300


def are_wide(gaps, records):
    """Return whether the gaps are at least the greatest of the records' quiets."""
    # Quiets ascend, so the last one is the greatest.
    return len(gaps) == 0 or len(records) == 0 or min(gaps) >= records[-1][1]


def can_tell(row, times):
    """Return whether there is a stream of which the row tells exactly these times."""
    check_stream(times)
    return are_wide(gaps_of(times), records_of(row.members))


def count_pasts(row, times, begin, end):
    """Return the number of streams from begin to end of which the row tells exactly these times."""
    check_stream(times)
    many = end - begin + 1
    if many > MOST_TIMES:
        raise Large(many)
    if len(times) == 0:
        return 1
    lag = lag_of(row.members)
    before = times[0] - lag - begin
    behind = end - (times[-1] - lag)
    gaps = gaps_of(times)
    records = records_of(row.members)
    if before < 0 or behind < 0 or not are_wide(gaps, records):
        return 0
    # Between two told events, lengths below a quiet matter to records, and the gaps of the times at last.
    below = records[-1][1] - 1 if len(records) > 0 else 0
    ways = Ways(before, max(gaps + [min(below, max(before, behind))]), behind)
    for kind, quiet in records:
        ways.add_record(kind, quiet)
    count = ways.before[before] * ways.behind[behind]
    for gap in gaps:
        count *= ways.between[gap]
    return count


class Ways:
    """For each length up to a greatest one, the ways of the events before, between and behind told ones.

    The length before is from the earliest time on to the first told event,
    the one behind from the last told event to the latest time.
    """

    def __init__(self, before, between, behind):
        self.before = [1] * (before + 1)
        self.between = [0] + [1] * between
        self.behind = [1] * (behind + 1)
        # No told events so far come nearer to one another.
        self.least = 1

    def add_record(self, kind, quiet):
        """Put a record behind the row, so that some of the events told so far are told no more."""
        near = [(gap, self.between[gap]) for gap in range(self.least, min(quiet, len(self.between)))]
        if kind == "limit":
            # Told no more are all that come within the quiet behind a told one.
            chains = chained([1] + [0] * (min(quiet, max(len(self.between), len(self.behind))) - 1), near)
            dropped = [(length, many) for length, many in enumerate(chains) if many > 0]
            self.between = joined(dropped, self.between, quiet)
            self.behind = joined(dropped, self.behind, 0)
        else:
            # Told no more are those in chains of gaps below the quiet.
            self.between = chained([0] * min(quiet, len(self.between)) + self.between[quiet:], near)
            if kind == "last":
                self.before = chained(self.before, near)
            else:
                self.behind = chained(self.behind, near)
        self.least = quiet


def chained(ways, near):
    """Return the ways of a part behind chains of gaps, for each length; near has pairs of a gap and its ways."""
    found = list(ways)
    for length in range(len(ways)):
        for gap, many in near:
            if gap > length:
                break
            found[length] += many * found[length - gap]
    return found


def joined(near, ways, begin):
    """Return the ways of two parts, one behind the other, for each length from the beginning on, and 0 below."""
    found = [0] * min(begin, len(ways))
    for length in range(begin, len(ways)):
        count = 0
        for gap, many in near:
            if gap > length:
                break
            count += many * ways[length - gap]
        found.append(count)
    return found
