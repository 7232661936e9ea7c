"""The completions with the most and the fewest returns."""

from lostexits.bounds import are_totals, lowered
from lostexits.completions import from_totals, stacks, totals
from lostexits.facts import all_hold_on, check_facts
from lostexits.solutions import solutions_of
from lostexits.traces import check_trace


def most_returned(trace, facts):
    """Return the completion that satisfies all facts with the largest total at every moment, or None."""
    check_trace(trace)
    check_facts(trace, facts)
    found = solutions_of(trace, facts)
    return from_totals(trace, found.largest) if found.exist() else None


def smallest_total(found, moment):
    """Return the smallest total at a moment among completions that exist."""
    smallest = found.largest[moment]
    bounds = found.largest
    while are_totals(bounds):
        smallest = bounds[moment]
        # With one total bounded from above there are still largest totals, or none at all.
        start = bounds[:]
        start[moment] = smallest - 1
        bounds, lines = lowered(found.steps, start)
    return smallest


def fewest_returned(trace, facts):
    """Return the completion that satisfies all facts with the smallest total at every moment, or None."""
    check_trace(trace)
    check_facts(trace, facts)
    found = solutions_of(trace, facts)
    if not found.exist():
        return None
    completion = from_totals(trace, [smallest_total(found, moment) for moment in range(len(trace) + 1)])
    # The smallest totals of valid completions are those of a valid one, but they may come from different
    # completions, and then a frame that has returned in each of them need not have returned in this one.
    return completion if all_hold_on(found.layout.created, stacks(trace, completion), facts) else None


def merge_most(trace, first, second):
    """Return the completion with the larger one of the totals of two completions at every moment."""
    larger = [max(one, other) for one, other in zip(totals(trace, first), totals(trace, second))]
    return from_totals(trace, larger)


def merge_fewest(trace, first, second):
    """Return the completion with the smaller one of the totals of two completions at every moment."""
    smaller = [min(one, other) for one, other in zip(totals(trace, first), totals(trace, second))]
    return from_totals(trace, smaller)
