"""Trains: streams told by their gaps, with a block of gaps that comes many times."""

from itertools import accumulate

from quietrows.errors import BadTrain, Large, NoEvent
from quietrows.plain import is_listing, is_number

MOST_LISTED = 10000


def check_number(number, what):
    if not is_number(number):
        raise BadTrain(what)


def check_gaps(gaps, what):
    if not is_listing(gaps):
        raise BadTrain(what)
    for gap in gaps:
        if not is_number(gap) or gap < 1:
            raise BadTrain(what)


class Train:
    """A first event, and the gaps behind it: a head, a block that comes in rounds, and an end."""

    def __init__(self, first, head, block, rounds, end):
        check_number(first, "first")
        check_gaps(head, "head")
        check_gaps(block, "block")
        check_number(rounds, "rounds")
        if rounds < 0:
            raise BadTrain("rounds")
        check_gaps(end, "end")
        self.first = first
        self.head = tuple(head)
        self.block = tuple(block)
        self.rounds = rounds
        self.end = tuple(end)

    def __eq__(self, other):
        return (isinstance(other, Train) and self.first == other.first and self.head == other.head
                and self.block == other.block and self.rounds == other.rounds and self.end == other.end)


def amount_of(train):
    """Return the number of the events."""
    return 1 + len(train.head) + train.rounds * len(train.block) + len(train.end)


def length_of(train):
    """Return the time from the first event to the last one."""
    return sum(train.head) + train.rounds * sum(train.block) + sum(train.end)


def event_at(train, number):
    """Return the time of the event with this number."""
    if not is_number(number) or number < 0 or number >= amount_of(train):
        raise NoEvent(number)
    if number <= len(train.head):
        return train.first + sum(train.head[:number])
    time = train.first + sum(train.head)
    number -= len(train.head)
    if number <= train.rounds * len(train.block):
        rounds, rest = divmod(number, len(train.block))
        return time + rounds * sum(train.block) + sum(train.block[:rest])
    number -= train.rounds * len(train.block)
    return time + train.rounds * sum(train.block) + sum(train.end[:number])


def gaps_within(gaps, time):
    """Return how many of the gaps, from the first one on, this time covers together."""
    many = 0
    for gap in gaps:
        time -= gap
        if time < 0:
            break
        many += 1
    return many


def events_until(train, time):
    """Return the number of the events at this time or earlier."""
    left = time - train.first
    if left < 0:
        return 0
    span = sum(train.head)
    if left < span:
        return 1 + gaps_within(train.head, left)
    left -= span
    many = 1 + len(train.head)
    span = sum(train.block)
    if left < train.rounds * span:
        rounds, rest = divmod(left, span)
        return many + rounds * len(train.block) + gaps_within(train.block, rest)
    left -= train.rounds * span
    return many + train.rounds * len(train.block) + gaps_within(train.end, left)


def train_events(train):
    """Return the list of all events."""
    many = amount_of(train)
    if many > MOST_LISTED:
        raise Large(many)
    gaps = [train.first, *train.head]
    # The rounds of a block without gaps may be more than a tuple can be repeated.
    if len(train.block) > 0:
        gaps.extend(train.block * train.rounds)
    gaps.extend(train.end)
    return list(accumulate(gaps))
