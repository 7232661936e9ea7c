"""The largest totals that inequalities leave, and how they are found.

The right sides grow with the totals. So the bounds start at numbers that are surely large enough, and
an inequality whose right side is smaller than the bound of its left moment lowers that bound. When
nothing is left to lower, the bounds themselves are the largest totals that satisfy all inequalities.
A total is at most the total at any later moment, and the total at moment 0 is 0. So a negative bound,
wherever it is, tells that no totals satisfy them.
"""

from lostexits.inequalities import right_side


def steps_from(by_source):
    """Return the list of all inequalities of a dict, each as a triple (left moment, terms, source)."""
    return [(left, terms, source) for source in by_source for left, terms in by_source[source]]


def lowered(steps, start):
    """Return the bounds below first ones, and the list of the lines (moment, bound, source) that lower them.

    It stops at the first negative bound, so that a few lines more than the sum of the first bounds suffice.
    """
    bounds = start[:]
    lines = []
    settled = False
    while not settled:
        known = len(lines)
        for left, terms, source in steps:
            right = right_side(terms, bounds)
            if right < bounds[left]:
                bounds[left] = right
                lines.append((left, right, source))
            if right < 0:
                return bounds, lines
        settled = len(lines) == known
    return bounds, lines


def are_totals(bounds):
    """Return whether bounds that are lowered as far as possible are totals."""
    return min(bounds) >= 0
