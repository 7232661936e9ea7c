"""Queries: what all completions that satisfy the facts have in common, and in what they differ."""

from lostexits.contraries import contraries
from lostexits.errors import InvalidFrame, InvalidMoment
from lostexits.facts import check_fact, check_facts, is_moment, is_within
from lostexits.inequalities import covered_inequalities
from lostexits.solutions import solutions_of
from lostexits.traces import checked_counts


def check_moment(created, value):
    """Raise InvalidMoment unless a value is a moment of a trace."""
    if not is_moment(created, value):
        raise InvalidMoment("this is not a moment of the trace")


def check_frame(created, value):
    """Raise InvalidFrame unless a value is a frame of a trace."""
    if not is_within(value, 0, created[-1] - 1):
        raise InvalidFrame("this is not a frame of the trace")


def status_among(found, fact):
    """Return how a fact stands among completions."""
    if not found.exist():
        return "inconsistent"
    if not found.allow(fact):
        return "excluded"
    for contrary in contraries(found.layout.created, fact):
        if found.allow(contrary):
            return "open"
    return "entailed"


def status(trace, facts, fact):
    """Return "inconsistent", "entailed", "excluded" or "open"."""
    created = checked_counts(trace)
    check_facts(created, facts)
    check_fact(created, fact)
    return status_among(solutions_of(trace, created, facts), fact)


def possible_depths(trace, facts, moment):
    """Return the ascending list of the depths at a moment."""
    created = checked_counts(trace)
    check_facts(created, facts)
    check_moment(created, moment)
    found = solutions_of(trace, created, facts)
    return [depth for depth in range(created[moment] + 1) if found.allow(("depth", moment, depth, depth))]


def possible_ends(trace, facts, frame):
    """Return the list of the ends of a frame: moments in ascending order, then None if it may stay active."""
    created = checked_counts(trace)
    check_facts(created, facts)
    check_frame(created, frame)
    found = solutions_of(trace, created, facts)
    moments = []
    staying = found
    for moment in range(found.layout.births[frame] + 1, len(trace) + 1):
        if staying.allow(("returned", frame, moment)):
            moments.append(moment)
        staying = found.with_fact(("active", frame, moment))
    return moments + [None] if staying.exist() else moments


def possible_callers(trace, facts, frame):
    """Return the list of the callers of a frame: None first if it may have none, then frames in ascending order."""
    created = checked_counts(trace)
    check_facts(created, facts)
    check_frame(created, frame)
    found = solutions_of(trace, created, facts)
    birth = found.layout.births[frame]
    # The frame that a tail call replaces is still above the caller at the moment before the call.
    replaced = 1 if trace[birth][0] == "tail" else 0
    below = [
        other
        for other in range(frame)
        if found.largest_with(covered_inequalities(found.layout, other, birth, replaced)) is not None
    ]
    return [None] + below if found.allow(("depth", birth, replaced, replaced)) else below


def certain_frames(trace, facts, moment):
    """Return the pair of the lists of the frames that are active in all completions and in none, or None."""
    created = checked_counts(trace)
    check_facts(created, facts)
    check_moment(created, moment)
    found = solutions_of(trace, created, facts)
    if not found.exist():
        return None
    active = [frame for frame in range(created[moment]) if not found.allow(("returned", frame, moment))]
    gone = [frame for frame in range(created[moment]) if not found.allow(("active", frame, moment))]
    return active, gone
