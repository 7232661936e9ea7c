"""The inequalities that events and facts give.

They are about the totals, the numbers of frames that have returned before each moment. An inequality
is a pair of its left moment and its terms: the total at the left moment is at most the largest term.
A term (moment, number) is the total at that moment plus the number; (None, number) is the number alone.
"""

from lostexits.traces import created_counts, creates_frame


class Layout:
    """What the inequalities need to know about a trace."""

    def __init__(self, trace):
        self.events = trace
        self.created = created_counts(trace)
        self.births = [at for at, event in enumerate(trace) if creates_frame(event)]


def right_side(terms, bounds):
    """Return the largest term if a list of bounds stands for the totals."""
    return max([number if moment is None else bounds[moment] + number for moment, number in terms])


def allowance(layout, frame, moment):
    """Return how many frames may return from the creation of a frame to a moment while it stays active."""
    # Before the frame with a number, just as many frames are created.
    entered = layout.created[moment] - frame - 1
    # The frame that a tail call replaces returns without touching the new one.
    return entered + 1 if layout.events[layout.births[frame]][0] == "tail" else entered


def tail_calls(layout, frame, moment):
    """Return the indices of the tail calls after the creation of a frame and before a moment."""
    return [at for at in range(layout.births[frame] + 1, moment) if layout.events[at][0] == "tail"]


def active_inequalities(layout, frame, moment):
    """Return the inequalities that say that a frame is active at a moment."""
    birth = layout.births[frame]
    found = []
    for at in range(birth + 1, moment + 1):
        found.append((at, ((birth, allowance(layout, frame, at)),)))
    # A tail call takes away one frame more than the moments on both sides of it show.
    for at in tail_calls(layout, frame, moment):
        found.append((at, ((birth, allowance(layout, frame, at) - 1),)))
    return found


def returned_inequalities(layout, frame, moment):
    """Return the inequality, in a list, that says that a frame is not active at a moment."""
    birth = layout.births[frame]
    shown = [(at, -allowance(layout, frame, at) - 1) for at in range(birth + 1, moment + 1)]
    hidden = [(at, -allowance(layout, frame, at)) for at in tail_calls(layout, frame, moment)]
    return [(birth, tuple(shown + hidden))]


def innermost_inequalities(layout, frame, moment, empty):
    """Return the inequalities that say that a frame is active at a moment, and none above it at the moment empty."""
    above = (layout.births[frame], ((empty, -allowance(layout, frame, moment)),))
    return active_inequalities(layout, frame, moment) + [above]


def covered_inequalities(layout, frame, moment, many):
    """Return the inequalities that say that a frame is active at a moment with exactly so many frames above it."""
    birth = layout.births[frame]
    left = allowance(layout, frame, moment) - many
    exactly = [(birth, ((moment, -left),)), (moment, ((birth, left),))]
    return active_inequalities(layout, frame, moment) + exactly


def event_inequalities(layout, at):
    """Return the inequalities that an event gives."""
    event = layout.events[at]
    kind = event[0]
    seen = 1 if kind in ("tail", "exit") else 0
    found = [(at, ((at + 1, -seen),))]
    if kind == "tail":
        found.append((at, ((None, layout.created[at] - 1),)))
    if kind == "exit":
        found.extend(innermost_inequalities(layout, event[1], at, at))
    if kind == "catch":
        found.extend(innermost_inequalities(layout, event[1], at, at + 1))
    return found


def depth_inequalities(layout, moment, low, high):
    """Return the inequalities that say that the depth at a moment is from low to high."""
    created = layout.created[moment]
    return [(moment, ((None, created - low),)), (0, ((moment, high - created),))]


def stack_inequalities(layout, moment, stack):
    """Return the inequalities that say that the stack at a moment is exactly this one."""
    found = []
    for frame in range(layout.created[moment]):
        if frame in stack:
            found.extend(active_inequalities(layout, frame, moment))
        else:
            found.extend(returned_inequalities(layout, frame, moment))
    return found


def fact_inequalities(layout, fact):
    """Return the inequalities that a fact gives."""
    kind = fact[0]
    if kind == "depth":
        return depth_inequalities(layout, fact[1], fact[2], fact[3])
    if kind == "active":
        return active_inequalities(layout, fact[1], fact[2])
    if kind == "returned":
        return returned_inequalities(layout, fact[1], fact[2])
    if kind == "innermost":
        return innermost_inequalities(layout, fact[1], fact[2], fact[2])
    if kind == "returns":
        return [(fact[2], ((fact[1], fact[4]),)), (fact[1], ((fact[2], -fact[3]),))]
    if kind == "deeper":
        lead = layout.created[fact[1]] - layout.created[fact[2]] - fact[3]
        return [(fact[1], ((fact[2], lead),))]
    return stack_inequalities(layout, fact[1], fact[2])


def inequalities_by_source(layout, facts):
    """Return the dict from each source, an event or a fact, to the list of its inequalities."""
    found = {}
    # From the last event to the first, one pass over all of them carries a bound to every earlier moment.
    for at in reversed(range(len(layout.events))):
        found[("event", at)] = event_inequalities(layout, at)
    for index, fact in enumerate(facts):
        found[("fact", index)] = fact_inequalities(layout, fact)
    return found
