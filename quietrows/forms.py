"""The normal form of rows: when two do the same, and when one tells no more than another."""

from quietrows.errors import BadForm, Mixed
from quietrows.members import Delay, First, Last, Limit
from quietrows.plain import as_tuples, is_number
from quietrows.rows import Row, lag_of, record_indexes, records_of

RECORD_KINDS = ("last", "first", "limit")


class Normal:
    """A normal form: pairs (kind, quiet) of the records, and the whole delay."""

    def __init__(self, records, delay):
        self.records = as_tuples(records)
        self.delay = as_tuples(delay)

    def __eq__(self, other):
        return isinstance(other, Normal) and self.records == other.records and self.delay == other.delay


def normal_form(row):
    """Return the Normal that is the same for exactly the rows that do the same."""
    return Normal(records_of(row.members), lag_of(row.members))


def is_record(thing):
    return isinstance(thing, tuple) and len(thing) == 2 and thing[0] in RECORD_KINDS and is_number(thing[1])


def are_records(thing):
    """Return whether this is a tuple of records with ascending quiets, from 2 on."""
    if not isinstance(thing, tuple):
        return False
    greatest = 1
    for record in thing:
        if not is_record(record) or record[1] <= greatest:
            return False
        greatest = record[1]
    return True


def member_of(record):
    kind, quiet = record
    if kind == "last":
        return Last(quiet)
    if kind == "first":
        return First(quiet)
    return Limit(quiet)


def row_of(form):
    """Return the row of the records, with a Delay behind them for what is left of the delay."""
    if not isinstance(form, Normal) or not are_records(form.records) or not is_number(form.delay):
        raise BadForm()
    members = [member_of(record) for record in form.records]
    rest = form.delay - lag_of(members)
    if rest < 0:
        raise BadForm()
    if rest > 0:
        members.append(Delay(rest))
    return Row(members)


def same_rows(row, other):
    """Return whether two rows tell the same events at the same times of every stream."""
    return normal_form(row) == normal_form(other)


def idle_members(row):
    """Return the indexes of the members that are no records."""
    records = record_indexes(row.members)
    return [index for index in range(len(row.members)) if index not in records]


def check_one_kind(records):
    kinds = [kind for kind, _ in records]
    for kind in kinds:
        if kind == "limit" or kind != kinds[0]:
            raise Mixed()


def shared_records(records, others):
    """Return how many records two rows have in common from the beginning on."""
    many = 0
    for record, other in zip(records, others):
        if record != other:
            break
        many += 1
    return many


def is_contained(row, other):
    """Return whether the row tells only events that the other one tells, on every stream."""
    records = records_of(row.members)
    others = records_of(other.members)
    check_one_kind(records + others)
    shared = shared_records(records, others)
    if shared == len(others):
        return True
    # Quiets ascend, so the last record of the other row has the greatest one.
    return shared < len(records) and records[shared][1] >= others[-1][1]
