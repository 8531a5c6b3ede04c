"""Texts of rows, busses, streams and trains, and what is read from them."""

from quietrows.busses import Bus
from quietrows.errors import BadText
from quietrows.forms import RECORD_KINDS, member_of
from quietrows.members import Delay, check_stream, is_member
from quietrows.plain import is_name
from quietrows.rows import Row
from quietrows.trains import Train

DIGITS = "0123456789"
MOST_DIGITS = 60
TRAIN_PARTS = 5


def row_text(row):
    if len(row.members) == 0:
        return "all"
    return ", ".join([member_text(member) for member in row.members])


def bus_text(bus):
    return "; ".join([member_text(step) if is_member(step) else step for step in bus.steps])


def stream_text(stream):
    return numbers_text(stream)


def train_text(train):
    parts = [str(train.first), numbers_text(train.head), numbers_text(train.block), str(train.rounds),
             numbers_text(train.end)]
    return " | ".join(parts)


def member_text(member):
    if isinstance(member, Delay):
        return f"delay {member.d}"
    return f"{member.kind()} {member.quiet()}"


def numbers_text(numbers):
    if len(numbers) == 0:
        return "none"
    return " ".join([str(number) for number in numbers])


def number_in(text):
    """Return the number that is written so, or None."""
    digits = text[1:] if text.startswith("-") else text
    if not 1 <= len(digits) <= MOST_DIGITS or not all([digit in DIGITS for digit in digits]):
        return None
    if digits.startswith("0") and text != "0":
        return None
    return int(text)


def numbers_in(text):
    """Return the numbers that are written so, a None in place of each that is not."""
    return [] if text == "none" else [number_in(part) for part in text.split(" ")]


def member_in(text):
    """Return the pair (kind, number) of a member that is written so, or None."""
    words = text.split(" ")
    if len(words) != 2 or words[0] not in (*RECORD_KINDS, "delay") or number_in(words[1]) is None:
        return None
    return words[0], number_in(words[1])


def made_member(pair):
    kind, number = pair
    return Delay(number) if kind == "delay" else member_of(pair)


def check_parts(parts):
    """Raise BadText with the place of the first part that could not be read."""
    for place, part in enumerate(parts):
        if part is None:
            raise BadText(place)


def check_string(text):
    if not isinstance(text, str):
        raise BadText(0)


def read_row(text):
    """Return the row that is written so."""
    check_string(text)
    pairs = [] if text == "all" else [member_in(part) for part in text.split(", ")]
    check_parts(pairs)
    return Row([made_member(pair) for pair in pairs])


def read_bus(text):
    """Return the bus that is written so."""
    check_string(text)
    steps = [part if is_name(part) else member_in(part) for part in text.split("; ")]
    check_parts(steps)
    return Bus([step if isinstance(step, str) else made_member(step) for step in steps])


def read_stream(text):
    """Return the stream that is written so, as a list."""
    check_string(text)
    times = numbers_in(text)
    check_parts(times)
    check_stream(times)
    return times


def read_train(text):
    """Return the train that is written so."""
    check_string(text)
    texts = text.split(" | ")
    parts = []
    for place, part in enumerate(texts[:TRAIN_PARTS]):
        found = number_in(part) if place in (0, 3) else numbers_in(part)
        if found is None or (isinstance(found, list) and None in found):
            raise BadText(place)
        parts.append(found)
    if len(texts) != TRAIN_PARTS:
        raise BadText(len(parts))
    return Train(*parts)
