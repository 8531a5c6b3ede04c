"""Finding a hidden row by asking what it tells of streams.

A lone event tells the whole delay. Then the records are found from the greatest
quiet down to 2: each question has no gap so narrow that a record of less quiet
could close it, and is told unlike by all rows that have the known records behind
no further one, a Last, a First or a Limit of the quiet that is asked for. So each
answer fits exactly one of these, or none at all.
"""

from itertools import accumulate

from quietrows.errors import Large, NoQuestion, NotKnown, Untrue
from quietrows.forms import RECORD_KINDS, Normal, row_of
from quietrows.members import check_stream
from quietrows.parted import gaps_beside
from quietrows.plain import is_number
from quietrows.rows import told_times

MOST_QUIET = 60
MOST_MEMBERS = 12


class Finder:
    """Finds the normal form of a hidden row whose quiets and delays are at most the most."""

    def __init__(self, most):
        if not is_number(most) or most < 1 or most > MOST_QUIET:
            raise Large(most)
        self.most = most
        # None until the first answer tells it.
        self.delay = None
        # The records from the quiet on that was asked for last, which all fit the answers.
        self.records = ()
        self.asked_quiet = most + 1
        self.asked = None

    def ask(self):
        """Return the stream to be answered next, or None if all is known."""
        if self.asked is not None:
            return list(self.asked)
        if self.delay is None:
            self.asked = (0,)
            return [0]
        quiet = self.next_quiet()
        if quiet is None:
            return None
        self.asked_quiet = quiet
        self.asked = tuple(question(quiet, self.records, self.most))
        return list(self.asked)

    def take_answer(self, times):
        """Take the times that the hidden row tells of the stream that was asked."""
        if self.asked is None:
            raise NoQuestion()
        check_stream(times)
        if self.delay is None:
            if len(times) != 1 or times[0] < 0 or times[0] > MOST_MEMBERS * self.most:
                raise Untrue()
            self.delay = times[0]
        else:
            self.records = self.records_told(list(times))
        self.asked = None

    def known_form(self):
        """Return the normal form of the hidden row."""
        if self.asked is not None or self.delay is None or self.next_quiet() is not None:
            raise NotKnown()
        return Normal(self.records, self.delay)

    def next_quiet(self):
        """Return the greatest quiet that a record ahead of the known ones may have, or None."""
        for quiet in range(self.asked_quiet - 1, 1, -1):
            if len(self.records_with(quiet)) > 1:
                return quiet
        return None

    def records_with(self, quiet):
        """Return the records known, alone and behind one of each kind with this quiet, as far as a row has them."""
        return [self.records] + [((kind, quiet),) + self.records for kind in RECORD_KINDS
                                 if self.may_have(((kind, quiet),) + self.records)]

    def may_have(self, records):
        """Return whether a row of few enough members can have these records, and the delay."""
        rest = self.delay - sum([quiet for kind, quiet in records if kind == "last"])
        # The other members can add up to any delay that is not greater than the most of each.
        return 0 <= rest <= (MOST_MEMBERS - len(records)) * self.most

    def records_told(self, times):
        for records in self.records_with(self.asked_quiet):
            if told_times(row_of(Normal(records, self.delay)), self.asked) == times:
                return records
        raise Untrue()


def question(quiet, common, most):
    """Return a stream that tells the next record of this quiet, ahead of those that are known."""
    # A Last of two events tells the later one, and others the earlier one.
    parts = [[quiet - 1]]
    for kind, rounds in (("last", 1), ("first", 1), ("first", 2)):
        ahead, behind = gaps_beside(kind, quiet, rounds, common)
        parts.append(ahead + [quiet - 1] * rounds + behind)
    gaps = parts[0]
    for part in parts[1:]:
        # Behind a gap as wide as all quiets nothing of what was ahead matters.
        gaps = gaps + [most] + part
    return list(accumulate([0] + gaps))
