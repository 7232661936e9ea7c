"""Traces: tuples of events, and the frames that the events create."""

from lostexits.errors import InvalidTrace

MOST_EVENTS = 24
MOST_FRAMES = 10
LONGEST_NAME = 8


def is_plain_int(value):
    """Return whether a value is an integer; True and False are none."""
    return isinstance(value, int) and not isinstance(value, bool)


def is_name(value):
    """Return whether a value is the name of a function."""
    if not isinstance(value, str) or not 1 <= len(value) <= LONGEST_NAME:
        return False
    return value.isascii() and value.isalpha() and value.islower()


def creates_frame(event):
    """Return whether an event creates a frame."""
    return event[0] in ("enter", "tail")


def created_counts(trace):
    """Return, for each moment, the number of frames that are created before it."""
    counts = [0]
    for event in trace:
        counts.append(counts[-1] + 1 if creates_frame(event) else counts[-1])
    return counts


def is_event(value, created):
    """Return whether a value is an event that may follow events that create so many frames."""
    if not isinstance(value, tuple):
        return False
    if len(value) != 2:
        return value == ("mark",)
    kind, detail = value
    if kind == "enter":
        return is_name(detail)
    if kind == "tail":
        # The first frame of a trace comes from an entry, so any frame tells of one.
        return created > 0 and is_name(detail)
    if kind in ("exit", "catch"):
        return is_plain_int(detail) and 0 <= detail < created
    return False


def is_trace(value):
    """Return whether a value is a trace."""
    if not isinstance(value, tuple) or len(value) > MOST_EVENTS:
        return False
    created = 0
    for event in value:
        if not is_event(event, created):
            return False
        if creates_frame(event):
            created += 1
    return created <= MOST_FRAMES


def check_trace(value):
    """Raise InvalidTrace unless a value is a trace."""
    if not is_trace(value):
        raise InvalidTrace("this is not a trace")


def frames(trace):
    """Return the list of all frames as pairs of a name and the index of the creating event."""
    check_trace(trace)
    return [(event[1], at) for at, event in enumerate(trace) if creates_frame(event)]
