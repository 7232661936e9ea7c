"""Traces: tuples of events, and the frames that the events create."""

from lostexits.errors import InvalidTrace

MOST_EVENTS = 24
MOST_FRAMES = 10
LONGEST_NAME = 8
CREATING = ("enter", "tail")


def is_plain_int(value):
    """Return whether a value is an integer; True and False are none."""
    return isinstance(value, int) and not isinstance(value, bool)


def is_name(value):
    """Return whether a value is the name of a function."""
    if not isinstance(value, str) or len(value) > LONGEST_NAME:
        return False
    # An empty string has no letter, so it is none.
    return value.isascii() and value.isalpha() and value.islower()


def is_event(value, created):
    """Return whether a value is an event that may follow events that create so many frames."""
    if not isinstance(value, tuple):
        return False
    if len(value) != 2:
        return value == ("mark",)
    kind, detail = value
    if kind == "enter":
        return is_name(detail)
    if kind == "tail":
        # The first frame of a trace comes from an entry, so any frame tells of one.
        return created > 0 and is_name(detail)
    if kind in ("exit", "catch"):
        return is_plain_int(detail) and 0 <= detail < created
    return False


def created_counts(value):
    """Return, for each moment of a trace, the number of frames that are created before it; None for any other value."""
    if not isinstance(value, tuple) or len(value) > MOST_EVENTS:
        return None
    created = 0
    counts = [0]
    for event in value:
        if not is_event(event, created):
            return None
        if event[0] in CREATING:
            created += 1
        counts.append(created)
    return counts if created <= MOST_FRAMES else None


def is_trace(value):
    """Return whether a value is a trace."""
    return created_counts(value) is not None


def checked_counts(value):
    """Return what created_counts does, but raise InvalidTrace if a value is not a trace."""
    counts = created_counts(value)
    if counts is None:
        raise InvalidTrace("this is not a trace")
    return counts


def frames(trace):
    """Return the list of all frames as pairs of a name and the index of the creating event."""
    checked_counts(trace)
    return [(event[1], at) for at, event in enumerate(trace) if event[0] in CREATING]
