"""The inequalities that events and facts give.

They are about the totals, the numbers of frames that have returned before each moment. An inequality is
a tuple (left, moment, number, others, source). It says that the total at the moment left is at most the
total at the moment plus the number or, where there are others, at most the largest of such sums: the others
are further pairs of a moment and a number. The source is the event or the fact that gives the inequality.

A list of bounds stands for the totals. Behind them it has one item more, which is always 0: where ZERO
stands in the place of a moment, the number alone counts.
"""

ZERO = -1


class Layout:
    """What the inequalities need to know about a trace."""

    def __init__(self, trace, created):
        self.events = trace
        self.created = created
        self.births = [at for at in range(len(trace)) if created[at] < created[at + 1]]
        self.tails = [at for at in self.births if trace[at][0] == "tail"]


def first_bounds(created):
    """Return the bounds that need no inequality: no more frames return than are created."""
    return created + [0]


def right_side(inequality, bounds):
    """Return the largest sum of an inequality if a list of bounds stands for the totals."""
    left, moment, number, others, source = inequality
    return max([bounds[moment] + number] + [bounds[at] + more for at, more in others])


def held_back(layout, frame):
    """Return how many of the frames up to this one do not return from its creation on while it is active.

    Those that have returned before its creation are counted, too; the one that a tail call replaces is not.
    """
    return frame if layout.births[frame] in layout.tails else frame + 1


def active_inequalities(layout, frame, moment, source):
    """Return the inequalities that say that a frame is active at a moment."""
    birth = layout.births[frame]
    created = layout.created
    held = held_back(layout, frame)
    shown = [(at, birth, created[at] - held, (), source) for at in range(birth + 1, moment + 1)]
    # A tail call takes away one frame more than the moments on both sides of it show.
    hidden = [(at, birth, created[at] - held - 1, (), source) for at in layout.tails if birth < at < moment]
    return shown + hidden


def returned_inequalities(layout, frame, moment, source):
    """Return the inequality, in a list, that says that a frame is not active at a moment."""
    birth = layout.births[frame]
    created = layout.created
    held = held_back(layout, frame)
    shown = [(at, held - 1 - created[at]) for at in range(birth + 1, moment)]
    hidden = [(at, held - created[at]) for at in layout.tails if birth < at < moment]
    return [(birth, moment, held - 1 - created[moment], shown + hidden, source)]


def innermost_inequalities(layout, frame, moment, empty, source):
    """Return the inequalities that say that a frame is active at a moment, and none above it at the moment empty."""
    above = (layout.births[frame], empty, held_back(layout, frame) - layout.created[moment], (), source)
    return [above] + active_inequalities(layout, frame, moment, source)


def covered_inequalities(layout, frame, moment, many):
    """Return the inequalities that say that a frame is active at a moment with exactly so many frames above it."""
    birth = layout.births[frame]
    left = layout.created[moment] - held_back(layout, frame) - many
    exactly = [(birth, moment, -left, (), None), (moment, birth, left, (), None)]
    return exactly + active_inequalities(layout, frame, moment, None)


def event_inequalities(layout, at):
    """Return the inequalities that an event gives."""
    event = layout.events[at]
    kind = event[0]
    source = ("event", at)
    if kind == "tail":
        return [(at, at + 1, -1, (), source), (at, ZERO, layout.created[at] - 1, (), source)]
    if kind == "exit":
        return [(at, at + 1, -1, (), source)] + innermost_inequalities(layout, event[1], at, at, source)
    if kind == "catch":
        return [(at, at + 1, 0, (), source)] + innermost_inequalities(layout, event[1], at, at + 1, source)
    return [(at, at + 1, 0, (), source)]


def depth_inequalities(layout, moment, low, high, source):
    """Return the inequalities that say that the depth at a moment is from low to high."""
    created = layout.created[moment]
    return [(0, moment, high - created, (), source), (moment, ZERO, created - low, (), source)]


def stack_inequalities(layout, moment, stack, source):
    """Return the inequalities that say that the stack at a moment is exactly this one."""
    found = []
    for frame in range(layout.created[moment]):
        if frame in stack:
            found.extend(active_inequalities(layout, frame, moment, source))
        else:
            found.extend(returned_inequalities(layout, frame, moment, source))
    return found


def fact_inequalities(layout, fact, source):
    """Return the inequalities that a fact gives."""
    kind = fact[0]
    if kind == "depth":
        return depth_inequalities(layout, fact[1], fact[2], fact[3], source)
    if kind == "active":
        return active_inequalities(layout, fact[1], fact[2], source)
    if kind == "returned":
        return returned_inequalities(layout, fact[1], fact[2], source)
    if kind == "innermost":
        return innermost_inequalities(layout, fact[1], fact[2], fact[2], source)
    if kind == "returns":
        return [(fact[2], fact[1], fact[4], (), source), (fact[1], fact[2], -fact[3], (), source)]
    if kind == "deeper":
        lead = layout.created[fact[1]] - layout.created[fact[2]] - fact[3]
        return [(fact[1], fact[2], lead, (), source)]
    return stack_inequalities(layout, fact[1], fact[2], source)


def all_inequalities(layout, facts):
    """Return the list of all inequalities that the events and the facts give."""
    found = []
    # From the last event to the first, one pass over all of them carries a bound to every earlier moment.
    for at in reversed(range(len(layout.events))):
        found.extend(event_inequalities(layout, at))
    for index, fact in enumerate(facts):
        found.extend(fact_inequalities(layout, fact, ("fact", index)))
    return found
