"""Derivations: lists of lines which show that no completion satisfies all facts."""

from lostexits.facts import check_facts
from lostexits.inequalities import Layout, inequalities_by_source, right_side
from lostexits.solutions import solutions_of
from lostexits.traces import check_trace, is_plain_int

MOST_LINES = 1500


def lines_to_start(line):
    """Return the lines that carry the bound of a line to moment 0."""
    moment, bound, source = line
    # By each event alone, the total before it is at most the total after it.
    return [(at, bound, ("event", at)) for at in reversed(range(moment))]


def derivation(trace, facts):
    """Return a derivation, or None if the facts are consistent."""
    check_trace(trace)
    check_facts(trace, facts)
    found = solutions_of(trace, facts)
    if found.exist():
        return None
    return found.lines + lines_to_start(found.lines[-1])


def is_source(value):
    """Return whether a value has the form of a source; the index may be too large."""
    if not isinstance(value, tuple) or len(value) != 2:
        return False
    return isinstance(value[0], str) and is_plain_int(value[1])


def is_line(value):
    """Return whether a value has the form of a line."""
    if not isinstance(value, tuple) or len(value) != 3:
        return False
    return is_plain_int(value[0]) and is_plain_int(value[1]) and is_source(value[2])


def follows(line, by_source, bounds):
    """Return whether a line follows if these are the smallest bounds that are known before it."""
    moment, bound, source = line
    given = by_source.get(source, [])
    return any([left == moment and right_side(terms, bounds) <= bound for left, terms in given])


def all_follow(lines, by_source, start):
    """Return whether all lines of a list follow from the lines before them and the first bounds."""
    bounds = start[:]
    for line in lines:
        if not is_line(line) or not follows(line, by_source, bounds):
            return False
        bounds[line[0]] = min(bounds[line[0]], line[1])
    return True


def is_derivation(trace, facts, value):
    """Return whether a value is a derivation."""
    check_trace(trace)
    check_facts(trace, facts)
    if not isinstance(value, list) or not 1 <= len(value) <= MOST_LINES:
        return False
    layout = Layout(trace)
    if not all_follow(value, inequalities_by_source(layout, facts), layout.created):
        return False
    moment, bound, source = value[-1]
    return moment == 0 and bound < 0
