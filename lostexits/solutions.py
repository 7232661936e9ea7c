"""All completions of a trace that satisfy some facts, known by the largest totals among them."""

from lostexits.bounds import lowered
from lostexits.inequalities import Layout, all_inequalities, fact_inequalities, first_bounds


class Solutions:
    """The completions whose totals satisfy inequalities; the largest bounds are None if there are none."""

    def __init__(self, layout, inequalities, largest):
        self.layout = layout
        self.inequalities = inequalities
        self.largest = largest

    def exist(self):
        """Return whether there is one."""
        return self.largest is not None

    def largest_with(self, further):
        """Return the largest bounds of those of them that satisfy further inequalities, too, or None."""
        if self.largest is None:
            return None
        bounds, lines = lowered(further, self.largest)
        # Often the largest totals satisfy the further inequalities as well, or these alone exclude all totals.
        if bounds is None or not lines:
            return bounds
        bounds, lines = lowered(further + self.inequalities, bounds)
        return bounds

    def allow(self, fact):
        """Return whether one of them satisfies a further fact, too."""
        return self.largest_with(fact_inequalities(self.layout, fact, None)) is not None

    def with_fact(self, fact):
        """Return those of them that satisfy a further fact, too."""
        further = fact_inequalities(self.layout, fact, None)
        return Solutions(self.layout, further + self.inequalities, self.largest_with(further))


def solutions_of(trace, created, facts):
    """Return the completions of a trace that satisfy facts."""
    layout = Layout(trace, created)
    inequalities = all_inequalities(layout, facts)
    largest, lines = lowered(inequalities, first_bounds(created))
    return Solutions(layout, inequalities, largest)
