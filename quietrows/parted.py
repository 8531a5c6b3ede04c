"""Streams that part two rows which do not do the same.

Records that both rows have behind pass what they get, if all its gaps are wide
enough for them. So a short stream is made of which the last records that are
unlike tell unlike events, and for each common record behind that would undo
this, one event ahead or behind keeps it.
"""

from quietrows.forms import same_rows
from quietrows.rows import lag_of, records_of
from quietrows.trains import Train

MOST_GAPS = 20


def parting(row, other):
    """Return a Train of which two rows tell unlike events or times, or None if they do the same."""
    if same_rows(row, other):
        return None
    if lag_of(row.members) != lag_of(other.members):
        # Every row tells a lone event, when its whole delay is over.
        return Train(0, [], [], 0, [])
    kind, quiet, rounds, common = last_unlike(records_of(row.members), records_of(other.members))
    ahead, behind = gaps_beside(kind, quiet, rounds, common)
    if len(ahead) + len(behind) < MOST_GAPS:
        return Train(0, ahead, [quiet - 1], rounds, behind)
    return long_train(kind, quiet, rounds, common)


def parting_gaps(records, others):
    """Return the gaps of a stream that parts the rows of unlike records, one more or two more than records."""
    kind, quiet, rounds, common = last_unlike(records, others)
    ahead, behind = gaps_beside(kind, quiet, rounds, common)
    return ahead + [quiet - 1] * rounds + behind


def last_unlike(records, others):
    """Return what a stream is made from that parts the rows of unlike records.

    This is the kind of the last unlike record, its quiet, how many gaps just below
    this are needed, and the common records behind that might undo what these do.
    """
    records, others, common = without_common_end(records, others)
    kind, quiet = last_of(records)
    other_kind, other_quiet = last_of(others)
    if other_quiet > quiet:
        return other_kind, other_quiet, 1, common
    if other_quiet < quiet:
        return kind, quiet, 1, common
    if "last" in (kind, other_kind):
        # Of two events, one row tells the last alone and the other one the first, and nothing undoes this.
        return kind, quiet, 1, ()
    # Of three events, a First tells the first alone, and a Limit also the last.
    return "first", quiet, 2, common


def without_common_end(records, others):
    """Return both without the records that they have in common at the end, and these."""
    many = 0
    for record, other in zip(records[::-1], others[::-1]):
        if record != other:
            break
        many += 1
    return records[:len(records) - many], others[:len(others) - many], records[len(records) - many:]


def last_of(records):
    return records[-1] if len(records) > 0 else ("none", 1)


def gaps_beside(kind, quiet, rounds, common):
    """Return the gaps to put ahead of those that part two rows, and behind them.

    These are one just below the quiet of the last unlike record of one row, where
    all of the other row have less, or two of them for a First where the other row
    has a Limit of the same quiet.
    """
    if kind == "last":
        return gaps_ahead(quiet - 1, common), []
    return gaps_around(rounds * (quiet - 1), common)


def gaps_ahead(length, common):
    """Return the gaps to put ahead, so that two rows tell unlike events also behind common records.

    One row tells two events this far apart, and the other one the later one alone.
    """
    ahead = []
    for kind, quiet in common:
        if quiet <= length:
            continue
        if kind != "last":
            # This leaves one event of each row, and not the same.
            break
        # Of a new event ahead and these, the row with two tells the last alone, and the other one both.
        ahead.insert(0, quiet - 1)
        length += quiet - 1
    return ahead


def gaps_around(length, common):
    """Return the gaps to put ahead and behind, as gaps_ahead does.

    One row tells two events this far apart, and the other one the earlier one alone.
    """
    ahead, behind = [], []
    for kind, quiet in common:
        if quiet <= length:
            continue
        if kind == "last":
            break
        if kind == "first":
            behind.append(quiet - 1)
        else:
            ahead.insert(0, quiet - 1)
        length += quiet - 1
    return ahead, behind


def long_train(kind, quiet, rounds, common):
    """Return a train with few gaps, but many rounds, where many common records are behind.

    The first of these would undo that a short stream parts the rows.
    """
    gap = quiet - 1
    if kind == "last":
        # The first common record leaves the last event alone of what the row without the Last tells,
        # and nothing undoes what the other one tells: the first event, and the last one far behind.
        return Train(0, [quiet], [gap], common[-1][1] // gap + 1, [])
    if kind == "first":
        return train_of_steps([gap], rounds * gap, 0, common)
    next_kind, next_quiet = common[0]
    step = gap + next_quiet - 1
    if next_kind == "first":
        return train_of_steps([gap, next_quiet - 1], step, 0, common[1:])
    return train_of_steps([next_quiet - 1, gap], step, 2 * step - gap, common[1:])


def up_to_multiple(number, step):
    return -(-number // step) * step


def train_of_steps(block, step, late, common):
    """Return a train of rounds of a block that parts rows also behind common records.

    Both tell its first event. Behind it one row tells an event at each step, and
    the other one at each step from the time late on, which is at no step itself,
    or tells none if late is 0.
    """
    end = []
    for kind, quiet in common:
        if kind == "limit":
            late += up_to_multiple(max(quiet - late, 0), step) if late > 0 else 0
            step = up_to_multiple(quiet, step)
        elif step < quiet:
            # A Last leaves the last events alone, which are unlike. A First leaves the first ones,
            # and then one more event is told by the row alone whose last event is not so near.
            end = [quiet - 1] if kind == "first" else []
            break
        elif 0 < late < quiet:
            if kind == "last":
                # Now the first event, too, is told by one row alone.
                break
            late += step
    length = up_to_multiple(late + common[-1][1], step) + step
    return Train(0, [], block, length // sum(block), end)
