"""Counting: all completions of short traces that satisfy the facts, numbered in ascending order."""

from lostexits.completions import reached_stacks
from lostexits.errors import CapacityError, InvalidCompletion, InvalidNumber
from lostexits.facts import all_hold_on, check_facts
from lostexits.paths import END, Paths
from lostexits.traces import checked_counts, is_plain_int

MOST_COUNTED_EVENTS = 9


def check_capacity(trace):
    """Raise CapacityError if a trace has too many events for its completions to be counted."""
    if len(trace) > MOST_COUNTED_EVENTS:
        raise CapacityError("completions are counted for shorter traces only")


def count(trace, facts):
    """Return how many completions satisfy the facts."""
    created = checked_counts(trace)
    check_facts(created, facts)
    check_capacity(trace)
    paths = Paths(trace, created, facts)
    return paths.ways[paths.start]


def path_to(paths, remaining):
    """Return the completion from which so many remain to the last one, itself included."""
    node = paths.start
    numbers = []
    while node != END:
        unseen = 0
        shorter = paths.shorter[node]
        # Completions with more unseen returns at a moment come behind those with fewer.
        while paths.ways[shorter] >= remaining:
            unseen += 1
            node = shorter
            shorter = paths.shorter[node]
        numbers.append(unseen)
        remaining -= paths.ways[shorter]
        node = paths.onward[node]
    return tuple(numbers)


def completion_at(trace, facts, number):
    """Return the completion with a number."""
    created = checked_counts(trace)
    check_facts(created, facts)
    if not is_plain_int(number) or number < 0:
        raise InvalidNumber("this is not an integer of at least 0")
    check_capacity(trace)
    paths = Paths(trace, created, facts)
    remaining = paths.ways[paths.start] - number
    if remaining <= 0:
        raise InvalidNumber("there is no completion with this number")
    return path_to(paths, remaining)


def number_of(trace, facts, completion):
    """Return the number of a completion."""
    created = checked_counts(trace)
    check_facts(created, facts)
    reached = reached_stacks(trace, created, completion)
    if reached is None or not all_hold_on(created, reached, facts):
        raise InvalidCompletion("this is not a valid completion of the trace that satisfies the facts")
    check_capacity(trace)
    paths = Paths(trace, created, facts)
    node = paths.start
    number = 0
    for unseen in completion:
        for step in range(unseen):
            # Those without this return come first.
            number += paths.ways[paths.onward[node]]
            node = paths.shorter[node]
        node = paths.onward[node]
    return number


def arrivals(paths):
    """Return the list of how many beginnings of completions come to each node."""
    found = [0] * len(paths.ways)
    found[paths.start] = 1
    # From the largest index on, all that come to a node are known before it is left.
    for node in reversed(range(END + 1, len(paths.ways))):
        many = found[node]
        found[paths.shorter[node]] += many
        found[paths.onward[node]] += many
    return found


def worst_case(paths, arriving, moment):
    """Return how many completions have the same stack at a moment, at most."""
    known = paths.known[moment]
    # All completions come through the only node of a moment.
    if len(known) == 1:
        return paths.ways[paths.start]
    sizes = {}
    for (stack, limits), node in known.items():
        sizes[stack] = sizes.get(stack, 0) + arriving[node] * paths.ways[paths.onward[node]]
    return max(sizes.values())


def best_sample(trace, facts):
    """Return the first moment at which a sample leaves the fewest completions at worst, and how many, or None."""
    created = checked_counts(trace)
    check_facts(created, facts)
    check_capacity(trace)
    paths = Paths(trace, created, facts)
    if paths.ways[paths.start] < 2:
        return None
    arriving = arrivals(paths)
    left = [worst_case(paths, arriving, moment) for moment in range(len(created))]
    fewest = min(left)
    return left.index(fewest), fewest
