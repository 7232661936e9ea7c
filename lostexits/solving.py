"""The completions with the most and the fewest returns."""

from lostexits.bounds import are_totals, lowered
from lostexits.completions import from_totals, totals
from lostexits.facts import check_facts, holds
from lostexits.inequalities import Layout, inequalities_by_source
from lostexits.traces import check_trace


def most_returned(trace, facts):
    """Return the completion that satisfies all facts with the largest total at every moment, or None."""
    check_trace(trace)
    check_facts(trace, facts)
    layout = Layout(trace)
    bounds, lines = lowered(inequalities_by_source(layout, facts), layout.created)
    return from_totals(trace, bounds) if are_totals(bounds) else None


def smallest_total(by_source, largest, moment):
    """Return the smallest total at a moment that satisfies inequalities, given the largest totals that do."""
    smallest = largest[moment]
    bounds = largest
    while are_totals(bounds):
        smallest = bounds[moment]
        # With one total bounded from above there are still largest totals, or none at all.
        start = bounds[:]
        start[moment] = smallest - 1
        bounds, lines = lowered(by_source, start)
    return smallest


def fewest_returned(trace, facts):
    """Return the completion that satisfies all facts with the smallest total at every moment, or None."""
    check_trace(trace)
    check_facts(trace, facts)
    layout = Layout(trace)
    by_source = inequalities_by_source(layout, facts)
    largest, lines = lowered(by_source, layout.created)
    if not are_totals(largest):
        return None
    smallest = [smallest_total(by_source, largest, moment) for moment in range(len(largest))]
    completion = from_totals(trace, smallest)
    # The smallest totals of valid completions are those of a valid one, but they may come from different
    # completions, and then a frame that has returned in each of them need not have returned in this one.
    return completion if all([holds(trace, completion, fact) for fact in facts]) else None


def merge_most(trace, first, second):
    """Return the completion with the larger one of the totals of two completions at every moment."""
    larger = [max(one, other) for one, other in zip(totals(trace, first), totals(trace, second))]
    return from_totals(trace, larger)


def merge_fewest(trace, first, second):
    """Return the completion with the smaller one of the totals of two completions at every moment."""
    smaller = [min(one, other) for one, other in zip(totals(trace, first), totals(trace, second))]
    return from_totals(trace, smaller)
