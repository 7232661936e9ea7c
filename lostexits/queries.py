"""Queries: what all completions that satisfy the facts have in common, and in what they differ."""

from lostexits.contraries import contraries
from lostexits.errors import InvalidFrame, InvalidMoment
from lostexits.facts import check_fact, check_facts, is_within
from lostexits.inequalities import covered_inequalities
from lostexits.solutions import solutions_of
from lostexits.traces import check_trace, frames


def check_moment(trace, value):
    """Raise InvalidMoment unless a value is a moment of a trace."""
    if not is_within(value, 0, len(trace)):
        raise InvalidMoment("this is not a moment of the trace")


def check_frame(trace, value):
    """Raise InvalidFrame unless a value is a frame of a trace."""
    if not is_within(value, 0, len(frames(trace)) - 1):
        raise InvalidFrame("this is not a frame of the trace")


def status_among(found, fact):
    """Return how a fact stands among completions."""
    if not found.exist():
        return "inconsistent"
    if not found.with_fact(fact).exist():
        return "excluded"
    for contrary in contraries(found.layout.created, fact):
        if found.with_fact(contrary).exist():
            return "open"
    return "entailed"


def status(trace, facts, fact):
    """Return "inconsistent", "entailed", "excluded" or "open"."""
    check_trace(trace)
    check_facts(trace, facts)
    check_fact(trace, fact)
    return status_among(solutions_of(trace, facts), fact)


def possible_depths(trace, facts, moment):
    """Return the ascending list of the depths at a moment."""
    check_trace(trace)
    check_facts(trace, facts)
    check_moment(trace, moment)
    found = solutions_of(trace, facts)
    depths = list(range(found.layout.created[moment] + 1))
    return [depth for depth in depths if found.with_fact(("depth", moment, depth, depth)).exist()]


def possible_ends(trace, facts, frame):
    """Return the list of the ends of a frame: moments in ascending order, then None if it may stay active."""
    check_trace(trace)
    check_facts(trace, facts)
    check_frame(trace, frame)
    found = solutions_of(trace, facts)
    moments = []
    staying = found
    for moment in range(found.layout.births[frame] + 1, len(trace) + 1):
        if staying.with_fact(("returned", frame, moment)).exist():
            moments.append(moment)
        staying = found.with_fact(("active", frame, moment))
    return moments + [None] if staying.exist() else moments


def possible_callers(trace, facts, frame):
    """Return the list of the callers of a frame: None first if it may have none, then frames in ascending order."""
    check_trace(trace)
    check_facts(trace, facts)
    check_frame(trace, frame)
    found = solutions_of(trace, facts)
    birth = found.layout.births[frame]
    # The frame that a tail call replaces is still above the caller at the moment before the call.
    replaced = 1 if trace[birth][0] == "tail" else 0
    below = [
        other
        for other in range(frame)
        if found.narrowed(covered_inequalities(found.layout, other, birth, replaced)).exist()
    ]
    alone = found.with_fact(("depth", birth, replaced, replaced))
    return [None] + below if alone.exist() else below


def certain_frames(trace, facts, moment):
    """Return the pair of the lists of the frames that are active in all completions and in none, or None."""
    check_trace(trace)
    check_facts(trace, facts)
    check_moment(trace, moment)
    found = solutions_of(trace, facts)
    if not found.exist():
        return None
    there = list(range(found.layout.created[moment]))
    active = [frame for frame in there if not found.with_fact(("returned", frame, moment)).exist()]
    gone = [frame for frame in there if not found.with_fact(("active", frame, moment)).exist()]
    return active, gone
