"""What rows tell of trains, however many rounds these have.

A train's events keep their own times here from member to member, and the delay
of the whole row is added at last: so an event's time also tells its number.
"""

from itertools import accumulate

from quietrows.rows import Told, lag_of, records_of
from quietrows.trains import Train, amount_of, event_at, events_until, length_of


def train_told(row, train):
    """Return a Train of the times at which the row tells the events of the train."""
    kept = stages_of(records_of(row.members), train)[-1]
    return Train(kept.first + lag_of(row.members), kept.head, kept.block, kept.rounds, kept.end)


def numbers_told(row, train, place):
    """Return the Told at this place of what the row tells of the train."""
    records = records_of(row.members)
    stages = stages_of(records, train)
    time = event_at(stages[-1], place)
    number = events_until(train, time) - 1
    first = first_spoken(records, stages, place)
    # The stretches are the whole train, so one ends where the next one begins.
    last = first_spoken(records, stages, place + 1) - 1
    return Told(number, time + lag_of(row.members), first, last)


def stages_of(records, train):
    """Return the train, and what of its events is left behind each of the records."""
    stages = [train]
    for kind, quiet in records:
        stages.append(kept_of(kind, quiet, stages[-1]))
    return stages


def first_spoken(records, stages, place):
    """Return the first event of the train for which the one at a place of the last stage speaks.

    For the place behind the last one, this is the number of all events.
    """
    for level in range(len(records), 0, -1):
        kind, _ = records[level - 1]
        stage = stages[level]
        before = stages[level - 1]
        if kind == "last":
            place = events_until(before, event_at(stage, place - 1)) if place > 0 else 0
        elif place < amount_of(stage):
            place = events_until(before, event_at(stage, place)) - 1
        else:
            place = amount_of(before)
    return place


def kept_of(kind, quiet, train):
    """Return the train of those events that a record tells, at their own times."""
    if min([*train.head, *train.block, *train.end], default=quiet) >= quiet:
        return train
    if kind == "last":
        return kept_by_last(quiet, train)
    if kind == "first":
        return kept_by_first(quiet, train)
    return kept_by_limit(quiet, train)


def joined_to_wide(gaps, quiet, since):
    """Let only the events behind gaps of at least a quiet be left.

    Since is the time from the last event that is left. This returns the gaps
    between those that are left, and the time since the last one at the end.
    """
    found = []
    for gap in gaps:
        since += gap
        if gap >= quiet:
            found.append(since)
            since = 0
    return found, since


def kept_by_first(quiet, train):
    head, since = joined_to_wide(train.head, quiet, 0)
    opening, rest = joined_to_wide(train.block, quiet, since)
    if train.rounds == 0 or len(opening) == 0:
        end, _ = joined_to_wide(train.end, quiet, since + train.rounds * sum(train.block))
        return Train(train.first, head + end, [], 0, [])
    # Only the first round can begin otherwise than the one before it ends.
    block, _ = joined_to_wide(train.block, quiet, rest)
    end, _ = joined_to_wide(train.end, quiet, rest)
    if since == rest:
        return Train(train.first, head, block, train.rounds, end)
    return Train(train.first, head + opening, block, train.rounds - 1, end)


def turned(first, train):
    """Return the train with its gaps from the last one to the first one."""
    return Train(first, train.end[::-1], train.block[::-1], train.rounds, train.head[::-1])


def kept_by_last(quiet, train):
    # A last tells of a train what a first tells of the same train backwards.
    kept = kept_by_first(quiet, turned(0, train))
    return turned(train.first + length_of(train) - length_of(kept), kept)


def joined_to_sums(gaps, quiet, since):
    """Like joined_to_wide, where an event is left that comes a quiet behind the last one left."""
    found = []
    for gap in gaps:
        since += gap
        if since >= quiet:
            found.append(since)
            since = 0
    return found, since


def first_from(sums, time):
    """Return the first of all rounds' events at this time or later.

    Times count from where the first round begins, and sums are the times of its
    events, of which the last one is where the next round begins.
    """
    rounds, left = divmod(time - 1, sums[-1])
    low = 0
    high = len(sums) - 1
    while low < high:
        middle = (low + high) // 2
        if sums[middle] > left:
            high = middle
        else:
            low = middle + 1
    return rounds * sums[-1] + sums[low]


def limited_until_again(sums, rounds, quiet, since):
    """Return what a limit tells of the rounds until it tells the same place of the block again.

    The times are returned, and the index of the one at whose place the last one
    is, or None if the rounds are over before.
    """
    places = {}
    found = []
    time = first_from(sums, quiet - since)
    while time <= rounds * sums[-1]:
        place = time % sums[-1]
        found.append(time)
        if place in places:
            return found, places[place]
        places[place] = len(found) - 1
        time = first_from(sums, time + quiet)
    return found, None


def gaps_behind(time, times):
    return [later - before for before, later in zip([time] + times, times)]


def limited_rounds(train, quiet, since):
    """Return a train of what a limit tells of the rounds, and the time since the last one.

    The train begins with the event that was told last, before the rounds.
    """
    sums = list(accumulate(train.block))
    span = train.rounds * sums[-1]
    found, back = limited_until_again(sums, train.rounds, quiet, since)
    if back is None:
        last = ([-since] + found)[-1]
        return Train(-since, gaps_behind(-since, found), [], 0, []), span - last
    turn = found[back + 1:]
    period = found[-1] - found[back]
    more = (span - found[-1]) // period
    last = found[-1] + more * period
    rest = [time + (more + 1) * period for time in turn if time + (more + 1) * period <= span]
    limited = Train(-since, gaps_behind(-since, found[:back + 1]), gaps_behind(found[back], turn), more + 1,
                    gaps_behind(last, rest))
    return limited, span - ([last] + rest)[-1]


def kept_by_limit(quiet, train):
    head, since = joined_to_sums(train.head, quiet, 0)
    if train.rounds == 0 or len(train.block) == 0:
        end, _ = joined_to_sums(train.end, quiet, since)
        return Train(train.first, head + end, [], 0, [])
    limited, since = limited_rounds(train, quiet, since)
    end, _ = joined_to_sums(train.end, quiet, since)
    return Train(train.first, head + list(limited.head), limited.block, limited.rounds, list(limited.end) + end)
