"""The errors: one class for each kind of failure, all directly under QuietError."""


class QuietError(ValueError):
    """The base of all errors of the package."""

    def told(self):
        return "refused quieterror"


class BadStream(QuietError):
    """What was given is no stream: the first place that is wrong, -1 for no list or tuple."""

    def __init__(self, place):
        self.place = place

    def told(self):
        return "refused badstream"


class BadMember(QuietError):
    """A member cannot be made of this: the parameter that is wrong."""

    def __init__(self, what):
        self.what = what

    def told(self):
        return "refused badmember"


class BadRow(QuietError):
    """A row cannot be made of this: the first element that is no member, -1 for no list or tuple."""

    def __init__(self, index):
        self.index = index

    def told(self):
        return "refused badrow"


class BadForm(QuietError):
    """What was given is the normal form of no row."""

    def told(self):
        return "refused badform"


class Mixed(QuietError):
    """The records of two rows together are not all last or all first."""

    def told(self):
        return "refused mixed"


class BadTrain(QuietError):
    """A train cannot be made of this: the first parameter that is wrong."""

    def __init__(self, what):
        self.what = what

    def told(self):
        return "refused badtrain"


class NoEvent(QuietError):
    """There is no event with this number."""

    def __init__(self, number):
        self.number = number

    def told(self):
        return "refused noevent"


class Large(QuietError):
    """There would be more than the program counts, lists or asks for."""

    def __init__(self, count):
        self.count = count

    def told(self):
        return "refused large"


class NoQuestion(QuietError):
    """An answer came, but no stream has been asked that is not answered yet."""

    def told(self):
        return "refused noquestion"


class Untrue(QuietError):
    """No row can have told this after what was told before."""

    def told(self):
        return "refused untrue"


class NotKnown(QuietError):
    """The hidden row is not known yet."""

    def told(self):
        return "refused notknown"


class BadNumbers(QuietError):
    """These are no numbers of events: the first place that is wrong, -1 for no list or tuple."""

    def __init__(self, place):
        self.place = place

    def told(self):
        return "refused badnumbers"


class BadBus(QuietError):
    """A bus cannot be made of this: the first step that is wrong, -1 for no list, no tuple or no steps."""

    def __init__(self, index):
        self.index = index

    def told(self):
        return "refused badbus"


class NoInput(QuietError):
    """A name is not that of an input, or comes twice."""

    def __init__(self, name):
        self.name = name

    def told(self):
        return "refused noinput"


class OtherInputs(QuietError):
    """Two busses have unlike inputs."""

    def told(self):
        return "refused otherinputs"


class NotLater(QuietError):
    """A time is no number, or too early for the moment now."""

    def __init__(self, time):
        self.time = time

    def told(self):
        return "refused notlater"


class NoBack(QuietError):
    """There is nothing to undo."""

    def told(self):
        return "refused noback"


class BadText(QuietError):
    """A text is not of the form asked for: the first part that is wrong, 0 for no string."""

    def __init__(self, place):
        self.place = place

    def told(self):
        return "refused badtext"


class NoName(QuietError):
    """A name keeps nothing, or something of another kind."""

    def told(self):
        return "refused noname"
