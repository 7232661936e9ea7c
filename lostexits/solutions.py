"""All completions of a trace that satisfy some facts, known by the largest totals among them."""

from lostexits.bounds import are_totals, lowered, steps_from
from lostexits.inequalities import Layout, fact_inequalities, inequalities_by_source


class Solutions:
    """The completions whose totals satisfy inequalities and are at most some first bounds."""

    def __init__(self, layout, steps, start):
        self.layout = layout
        self.steps = steps
        self.largest, self.lines = lowered(steps, start)

    def exist(self):
        """Return whether there is one."""
        return are_totals(self.largest)

    def narrowed(self, inequalities):
        """Return those of them that satisfy further inequalities, too."""
        added = [(left, terms, None) for left, terms in inequalities]
        # Their totals are not larger, so the largest ones so far are a short way from them.
        return Solutions(self.layout, added + self.steps, self.largest)

    def with_fact(self, fact):
        """Return those of them that satisfy a further fact, too."""
        return self.narrowed(fact_inequalities(self.layout, fact))


def solutions_of(trace, facts):
    """Return the completions of a trace that satisfy facts."""
    layout = Layout(trace)
    return Solutions(layout, steps_from(inequalities_by_source(layout, facts)), layout.created)
