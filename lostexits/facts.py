"""Facts: what is known about the call stack at some moments.

The list `created` has, for each moment of a trace, the number of frames that are created before it.
It is all that a fact needs to know about the trace.
"""

from lostexits.completions import checked_stacks
from lostexits.errors import InvalidFact, InvalidFacts
from lostexits.traces import checked_counts

MOST_FACTS = 8
LARGEST_NUMBER = 10


def is_within(value, low, high):
    """Return whether a value is an integer from low to high."""
    # Every part of every fact is asked this, so it does not go through is_plain_int.
    return isinstance(value, int) and not isinstance(value, bool) and low <= value <= high


def is_moment(created, value):
    """Return whether a value is a moment of a trace."""
    return is_within(value, 0, len(created) - 1)


def is_range(low, high):
    """Return whether two values are the bounds of a depth or of a number of returns."""
    return is_within(low, 0, LARGEST_NUMBER) and is_within(high, low, LARGEST_NUMBER)


def is_depth_fact(created, value):
    """Return whether a tuple of four parts is a fact of the kind "depth"."""
    return is_moment(created, value[1]) and is_range(value[2], value[3])


def is_frame_fact(created, value):
    """Return whether a tuple of three parts is a fact about a frame and a moment after its creation."""
    return is_moment(created, value[2]) and is_within(value[1], 0, created[value[2]] - 1)


def is_returns_fact(created, value):
    """Return whether a tuple of five parts is a fact of the kind "returns"."""
    if not is_moment(created, value[2]) or not is_within(value[1], 0, value[2] - 1):
        return False
    return is_range(value[3], value[4])


def is_deeper_fact(created, value):
    """Return whether a tuple of four parts is a fact of the kind "deeper"."""
    if not is_moment(created, value[1]) or not is_moment(created, value[2]):
        return False
    return value[1] != value[2] and is_within(value[3], -LARGEST_NUMBER, LARGEST_NUMBER)


def is_stack_fact(created, value):
    """Return whether a tuple of three parts is a fact of the kind "stack"."""
    moment = value[1]
    if not is_moment(created, moment) or not isinstance(value[2], tuple):
        return False
    # The frames ascend, so each one is at least the one below it plus 1.
    least = 0
    for frame in value[2]:
        if not is_within(frame, least, created[moment] - 1):
            return False
        least = frame + 1
    return True


PARTS = {"depth": 4, "active": 3, "returned": 3, "innermost": 3, "returns": 5, "deeper": 4, "stack": 3}
CHECKS = {
    "depth": is_depth_fact,
    "active": is_frame_fact,
    "returned": is_frame_fact,
    "innermost": is_frame_fact,
    "returns": is_returns_fact,
    "deeper": is_deeper_fact,
    "stack": is_stack_fact,
}


def has_fact_form(created, value):
    """Return whether a value is a fact about a trace that creates its frames so."""
    if not isinstance(value, tuple) or not value or not isinstance(value[0], str):
        return False
    if PARTS.get(value[0]) != len(value):
        return False
    check = CHECKS[value[0]]
    return check(created, value)


def is_fact(trace, value):
    """Return whether a value is a fact about a trace."""
    return has_fact_form(checked_counts(trace), value)


def check_fact(created, value):
    """Raise InvalidFact unless a value is a fact about a trace."""
    if not has_fact_form(created, value):
        raise InvalidFact("this is not a fact about the trace")


def check_facts(created, value):
    """Raise InvalidFacts unless a value is a tuple of facts about a trace."""
    if not isinstance(value, tuple) or len(value) > MOST_FACTS:
        raise InvalidFacts("this is not a tuple of so few facts")
    for fact in value:
        if not has_fact_form(created, fact):
            raise InvalidFacts("one of these is not a fact about the trace")


def depth_holds(created, reached, fact):
    """Return whether the depth at a moment is between the bounds."""
    return fact[2] <= len(reached[fact[1]]) <= fact[3]


def active_holds(created, reached, fact):
    """Return whether a frame is active at a moment."""
    return fact[1] in reached[fact[2]]


def returned_holds(created, reached, fact):
    """Return whether a frame is not active at a moment."""
    return fact[1] not in reached[fact[2]]


def innermost_holds(created, reached, fact):
    """Return whether a frame is the innermost active one at a moment."""
    return reached[fact[2]][-1:] == (fact[1],)


def returns_holds(created, reached, fact):
    """Return whether the number of returns between two moments is between the bounds."""
    before = created[fact[1]] - len(reached[fact[1]])
    after = created[fact[2]] - len(reached[fact[2]])
    return fact[3] <= after - before <= fact[4]


def deeper_holds(created, reached, fact):
    """Return whether the stack at a moment is deeper than at another one by a number."""
    return len(reached[fact[1]]) >= len(reached[fact[2]]) + fact[3]


def stack_holds(created, reached, fact):
    """Return whether the stack at a moment is exactly this one."""
    return reached[fact[1]] == fact[2]


HOLDING = {
    "depth": depth_holds,
    "active": active_holds,
    "returned": returned_holds,
    "innermost": innermost_holds,
    "returns": returns_holds,
    "deeper": deeper_holds,
    "stack": stack_holds,
}


def holds_on(created, reached, fact):
    """Return whether a fact holds, given a list or dict with the stacks at the moments that it is about."""
    rule = HOLDING[fact[0]]
    return rule(created, reached, fact)


def all_hold_on(created, reached, facts):
    """Return whether all facts hold, given such stacks."""
    for fact in facts:
        if not holds_on(created, reached, fact):
            return False
    return True


def holds(trace, completion, fact):
    """Return whether a fact holds in a completion of a trace."""
    created = checked_counts(trace)
    reached = checked_stacks(trace, created, completion)
    check_fact(created, fact)
    return holds_on(created, reached, fact)
