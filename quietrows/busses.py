"""Busses: rows into which further inputs come on the way."""

from quietrows.errors import BadBus, NoInput, OtherInputs
from quietrows.members import check_stream, is_member
from quietrows.plain import as_tuples, is_listing, is_name
from quietrows.rows import lag_of, records_of, times_behind


class Bus:
    """Steps one behind the other: members, and names where an input comes in."""

    def __init__(self, steps):
        if not is_listing(steps) or len(steps) == 0:
            raise BadBus(-1)
        names = []
        for index, step in enumerate(steps):
            if is_name(step) and step not in names:
                names.append(step)
            elif index == 0 or not is_member(step):
                raise BadBus(index)
        self.steps = tuple(steps)

    def __eq__(self, other):
        return isinstance(other, Bus) and self.steps == other.steps


def segments_of(bus):
    """Return a pair (name, members) for each input, with the members between it and the next one."""
    found = []
    for step in bus.steps:
        if is_member(step):
            found[-1][1].append(step)
        else:
            found.append((step, []))
    return found


def names_of(bus):
    return [name for name, _ in segments_of(bus)]


def check_inputs(bus, streams):
    names = names_of(bus)
    for name, _ in streams:
        if name not in names:
            raise NoInput(name)
        # A name that comes twice is refused at its second place.
        names.remove(name)
    for _, stream in streams:
        check_stream(stream)


def told_by(bus, streams):
    """Return the list of the times that the bus tells, if these pairs (name, stream) come in."""
    check_inputs(bus, streams)
    coming = {name: stream for name, stream in streams}
    times = []
    for name, members in segments_of(bus):
        times = times_behind(members, sorted(set(times) | set(coming.get(name, ()))))
    return times


class Places:
    """The normal form of a bus: the inputs of each place with their delays, and the records behind each."""

    def __init__(self, inputs, segments):
        self.inputs = as_tuples(inputs)
        self.segments = as_tuples(segments)

    def __eq__(self, other):
        return isinstance(other, Places) and self.inputs == other.inputs and self.segments == other.segments


def bus_places(bus):
    """Return the Places that are the same for exactly the busses that do the same."""
    segments = segments_of(bus)
    left = sum([lag_of(members) for _, members in segments])
    place, inputs, records = [], [], []
    for at, (name, members) in enumerate(segments):
        place.append((name, left))
        left -= lag_of(members)
        found = records_of(members)
        if len(found) > 0 or at == len(segments) - 1:
            inputs.append(sorted(place))
            records.append(found)
            place = []
    return Places(inputs, records)


def check_same_inputs(bus, other):
    if sorted(names_of(bus)) != sorted(names_of(other)):
        raise OtherInputs()


def same_busses(bus, other):
    """Return whether two busses tell the same times for all streams of their inputs."""
    check_same_inputs(bus, other)
    return bus_places(bus) == bus_places(other)
