"""The timers that rows set, stop and let ring."""

from quietrows.far import kept_of
from quietrows.members import Delay, Last, check_stream
from quietrows.rows import told_and_closed
from quietrows.trains import amount_of


class Timers:
    """How many timers the Last with an index has set, stopped and let ring."""

    def __init__(self, index, started, stopped, rung):
        self.index = index
        self.started = started
        self.stopped = stopped
        self.rung = rung

    def __eq__(self, other):
        return (isinstance(other, Timers) and self.index == other.index and self.started == other.started
                and self.stopped == other.stopped and self.rung == other.rung)


def row_timers(row, stream):
    """Return the Timers of each Last of the row, for a stream."""
    check_stream(stream)
    _, closed = told_and_closed(row.members, stream)
    amounts = [len(stream)]
    for places in closed:
        amounts.append(amounts[-1] - len(places))
    return timers_of(row, amounts)


def train_timers(row, train):
    """Return the Timers of each Last of the row, for a train."""
    amounts = [amount_of(train)]
    for member in row.members:
        if not isinstance(member, Delay):
            train = kept_of(member.kind(), member.quiet(), train)
        amounts.append(amount_of(train))
    return timers_of(row, amounts)


def timers_of(row, amounts):
    """Return the Timers, if these are the amounts of the events behind more and more members."""
    found = []
    for index, member in enumerate(row.members):
        if isinstance(member, Last):
            # A timer that rings tells the event for which it was set.
            started, rung = amounts[index], amounts[index + 1]
            found.append(Timers(index, started, started - rung, rung))
    return found
