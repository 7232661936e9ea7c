"""The completions with the most and the fewest returns."""

from lostexits.bounds import lowered
from lostexits.completions import completion_with, from_totals, reached_stacks, totals
from lostexits.facts import all_hold_on, check_facts
from lostexits.solutions import solutions_of
from lostexits.traces import checked_counts


def most_returned(trace, facts):
    """Return the completion that satisfies all facts with the largest total at every moment, or None."""
    created = checked_counts(trace)
    check_facts(created, facts)
    found = solutions_of(trace, created, facts)
    # The last one of the bounds stands for no moment.
    return completion_with(trace, created, found.largest[:-1]) if found.exist() else None


def smallest_total(found, moment):
    """Return the smallest total at a moment among completions that exist."""
    bounds = found.largest
    while bounds is not None:
        smallest = bounds[moment]
        if smallest == 0:
            return 0
        # With one total bounded from above there are still largest totals, or none at all.
        start = bounds[:]
        start[moment] = smallest - 1
        bounds, lines = lowered(found.inequalities, start)
    return smallest


def fewest_returned(trace, facts):
    """Return the completion that satisfies all facts with the smallest total at every moment, or None."""
    created = checked_counts(trace)
    check_facts(created, facts)
    found = solutions_of(trace, created, facts)
    if not found.exist():
        return None
    smallest = [smallest_total(found, moment) for moment in range(len(created))]
    completion = completion_with(trace, created, smallest)
    # The smallest totals of valid completions are those of a valid one, but they may come from different
    # completions, and then a frame that has returned in each of them need not have returned in this one.
    return completion if all_hold_on(created, reached_stacks(trace, created, completion), facts) else None


def merge_most(trace, first, second):
    """Return the completion with the larger one of the totals of two completions at every moment."""
    larger = [max(one, other) for one, other in zip(totals(trace, first), totals(trace, second))]
    return from_totals(trace, larger)


def merge_fewest(trace, first, second):
    """Return the completion with the smaller one of the totals of two completions at every moment."""
    smaller = [min(one, other) for one, other in zip(totals(trace, first), totals(trace, second))]
    return from_totals(trace, smaller)
