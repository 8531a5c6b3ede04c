"""A desk that keeps rows, busses, streams and trains by names, and answers commands about them."""

from quietrows.busses import Bus, names_of, same_busses, told_by
from quietrows.errors import BadText, NoInput, NoName, QuietError
from quietrows.far import numbers_told, train_told
from quietrows.forms import normal_form, row_of, same_rows
from quietrows.live import patience
from quietrows.parted import parting
from quietrows.pasts import count_pasts
from quietrows.plain import is_name
from quietrows.quiettexts import bus_text, row_text, stream_text, train_text
from quietrows.quiettexts import check_parts, check_string, number_in, read_bus, read_row, read_stream, read_train
from quietrows.rows import Row, told_times
from quietrows.trains import amount_of, event_at


def answer_tell(row, stream):
    return stream_text(told_times(row, stream))


def answer_times(bus, *streams):
    names = names_of(bus)
    if len(streams) < len(names):
        raise NoInput(names[len(streams)])
    if len(streams) > len(names):
        # What is too much here has no name among the inputs.
        raise NoInput("")
    return stream_text(told_by(bus, list(zip(names, streams))))


def answer_same(one, other):
    if isinstance(one, Row) and isinstance(other, Row):
        same = same_rows(one, other)
    elif isinstance(one, Bus) and isinstance(other, Bus):
        same = same_busses(one, other)
    else:
        raise NoName()
    return "yes" if same else "no"


def answer_normal(row):
    return row_text(row_of(normal_form(row)))


def answer_part(row, other):
    train = parting(row, other)
    return "none" if train is None else train_text(train)


def answer_patience(row):
    return str(patience(row))


def answer_amount(train):
    return str(amount_of(train))


def answer_at(train, number):
    return str(event_at(train, number))


def answer_far(row, train, *places):
    if len(places) == 0:
        return str(amount_of(train_told(row, train)))
    return str(numbers_told(row, train, places[0]).time)


def answer_pasts(row, stream, begin, end):
    return str(count_pasts(row, stream, begin, end))


ANSWERS = {
    "tell": answer_tell,
    "times": answer_times,
    "same": answer_same,
    "normal": answer_normal,
    "part": answer_part,
    "patience": answer_patience,
    "amount": answer_amount,
    "at": answer_at,
    "far": answer_far,
    "pasts": answer_pasts,
}
# What may stand behind the word of a command: numbers, and names of a kind or of any.
WORDS_BEHIND = {
    "drop": (("any",),),
    "names": ((),),
    "show": (("any",),),
    "tell": (("row", "stream"),),
    "same": (("any", "any"),),
    "normal": (("row",),),
    "part": (("row", "row"),),
    "patience": (("row",),),
    "amount": (("train",),),
    "at": (("train", "number"),),
    "far": (("row", "train"), ("row", "train", "number")),
    "pasts": (("row", "stream", "number", "number"),),
}
KINDS = ("row", "bus", "stream", "train")


def kinds_behind(word, many):
    """Return what kinds of words stand behind the first word of a command, if there are so many."""
    if word == "times" and many > 0:
        return ("bus",) + ("stream",) * (many - 1)
    for kinds in WORDS_BEHIND.get(word, ()):
        if len(kinds) == many:
            return kinds
    raise BadText(0)


def read_words(words, kinds):
    """Return the names and the numbers that these words are, of the kinds asked for."""
    found = []
    for word, kind in zip(words, kinds):
        if kind == "number":
            found.append(number_in(word))
        else:
            found.append(word if is_name(word) else None)
    check_parts(found)
    return found


def read_thing(kind, text):
    if kind == "row":
        return read_row(text)
    if kind == "bus":
        return read_bus(text)
    if kind == "stream":
        return read_stream(text)
    return read_train(text)


def thing_text(kind, thing):
    if kind == "row":
        return row_text(thing)
    if kind == "bus":
        return bus_text(thing)
    if kind == "stream":
        return stream_text(thing)
    return train_text(thing)


class Desk:
    """Keeps rows, busses, streams and trains by names."""

    def __init__(self):
        # By each name, the kind of what it keeps, and this.
        self.kept = {}

    def tell(self, command):
        """Take a command; return the list of the strings that answer it."""
        try:
            return self.answers_to(command)
        except QuietError as error:
            return [error.told()]

    def answers_to(self, command):
        check_string(command)
        words = command.split(" ")
        if words[0] in KINDS:
            self.keep(command)
            return ["kept"]
        kinds = kinds_behind(words[0], len(words) - 1)
        given = read_words(words[1:], kinds)
        if words[0] == "names":
            return sorted(self.kept) if len(self.kept) > 0 else ["none"]
        things = [part if kind == "number" else self.thing_of(part, kind) for part, kind in zip(given, kinds)]
        if words[0] == "drop":
            del self.kept[words[1]]
            return ["dropped"]
        if words[0] == "show":
            kind, thing = self.kept[words[1]]
            return [kind + " " + thing_text(kind, thing)]
        answer = ANSWERS[words[0]]
        return [answer(*things)]

    def keep(self, command):
        """Keep by its name what a text behind the first colon tells."""
        told, mark, text = command.partition(": ")
        words = told.split(" ")
        if mark == "" or len(words) != 2 or not is_name(words[1]):
            raise BadText(0)
        self.kept[words[1]] = (words[0], read_thing(words[0], text))

    def thing_of(self, name, kind):
        """Return what is kept by a name, if it is of this kind."""
        if name not in self.kept or kind not in ("any", self.kept[name][0]):
            raise NoName()
        return self.kept[name][1]
