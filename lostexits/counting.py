"""Counting: all completions of short traces that satisfy the facts, numbered in ascending order."""

from lostexits.completions import next_stack, reached_stacks
from lostexits.errors import CapacityError, InvalidCompletion, InvalidNumber
from lostexits.facts import all_hold_on, check_facts, last_moment
from lostexits.traces import check_trace, created_counts, is_plain_int

MOST_COUNTED_EVENTS = 9


def check_capacity(trace):
    """Raise CapacityError if a trace has too many events for its completions to be counted."""
    if len(trace) > MOST_COUNTED_EVENTS:
        raise CapacityError("completions are counted for shorter traces only")


def one_moment_longer(trace, created, beginnings):
    """Return all beginnings of completions that go on with one more moment, in ascending order."""
    longer = []
    for numbers, reached in beginnings:
        stack = next_stack(trace, created, reached)
        if stack is not None:
            for unseen in range(len(stack) + 1):
                longer.append((numbers + (unseen,), reached + (stack[:len(stack) - unseen],)))
    return longer


def satisfying(trace, facts):
    """Return all completions that satisfy the facts, in ascending order, as pairs with the tuples of their stacks."""
    created = created_counts(trace)
    beginnings = [((), ())]
    for moment in range(len(created)):
        due = [fact for fact in facts if last_moment(fact) == moment]
        longer = one_moment_longer(trace, created, beginnings)
        beginnings = [pair for pair in longer if all_hold_on(created, pair[1], due)]
    return beginnings


def count(trace, facts):
    """Return how many completions satisfy the facts."""
    check_trace(trace)
    check_facts(trace, facts)
    check_capacity(trace)
    return len(satisfying(trace, facts))


def completion_at(trace, facts, number):
    """Return the completion with a number."""
    check_trace(trace)
    check_facts(trace, facts)
    if not is_plain_int(number) or number < 0:
        raise InvalidNumber("this is not an integer of at least 0")
    check_capacity(trace)
    found = satisfying(trace, facts)
    if number >= len(found):
        raise InvalidNumber("there is no completion with this number")
    return found[number][0]


def number_of(trace, facts, completion):
    """Return the number of a completion."""
    check_trace(trace)
    check_facts(trace, facts)
    reached = reached_stacks(trace, completion)
    if reached is None or not all_hold_on(created_counts(trace), reached, facts):
        raise InvalidCompletion("this is not a valid completion of the trace that satisfies the facts")
    check_capacity(trace)
    numbered = [numbers for numbers, stacks in satisfying(trace, facts)]
    return numbered.index(completion)


def worst_case(found, moment):
    """Return how many of the completions have the same stack at a moment, at most."""
    sizes = {}
    for numbers, reached in found:
        stack = reached[moment]
        sizes[stack] = sizes.get(stack, 0) + 1
    return max(list(sizes.values()))


def best_sample(trace, facts):
    """Return the first moment at which a sample leaves the fewest completions at worst, and how many, or None."""
    check_trace(trace)
    check_facts(trace, facts)
    check_capacity(trace)
    found = satisfying(trace, facts)
    if len(found) < 2:
        return None
    left = [worst_case(found, moment) for moment in range(len(trace) + 1)]
    return left.index(min(left)), min(left)
