"""What all modules ask of the plain values that they are given."""

LETTERS = "abcdefghijklmnopqrstuvwxyz"
LONGEST_NAME = 8


def is_number(thing):
    # True and False are integers for Python, but no numbers for the program.
    return isinstance(thing, int) and not isinstance(thing, bool)


def is_listing(thing):
    return isinstance(thing, (list, tuple))


def is_name(thing):
    if not isinstance(thing, str) or not 1 <= len(thing) <= LONGEST_NAME:
        return False
    return all([letter in LETTERS for letter in thing])


def as_tuples(thing):
    """Return lists and tuples, also those inside, as tuples, and anything else as it is."""
    if is_listing(thing):
        return tuple([as_tuples(part) for part in thing])
    return thing
