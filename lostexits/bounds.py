"""The largest totals that inequalities leave, and how they are found.

The right sides grow with the totals. So the bounds start at numbers that are surely large enough, and
an inequality whose right side is smaller than the bound of its left moment lowers that bound. When
nothing is left to lower, the bounds themselves are the largest totals that satisfy all inequalities.
A total is at most the total at any later moment, and the total at moment 0 is 0. So a negative bound,
wherever it is, tells that no totals satisfy them.
"""


def lowered(inequalities, start):
    """Return the bounds below first ones, or None, and the list of the lines (moment, bound, source) that lower them.

    It stops at the first negative bound, with None instead of the bounds. So a few lines more than the sum of
    the first bounds suffice.
    """
    bounds = start[:]
    lines = []
    known = -1
    while known < len(lines):
        known = len(lines)
        for left, moment, number, others, source in inequalities:
            right = bounds[moment] + number
            # The others can only make the right side larger, so they are seldom looked at.
            if right < bounds[left]:
                for at, more in others:
                    right = max(right, bounds[at] + more)
                if right < bounds[left]:
                    bounds[left] = right
                    lines.append((left, right, source))
                    if right < 0:
                        return None, lines
    return bounds, lines
