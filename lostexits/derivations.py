"""Derivations: lists of lines which show that no completion satisfies all facts."""

from lostexits.bounds import lowered
from lostexits.facts import check_facts
from lostexits.inequalities import Layout, all_inequalities, first_bounds, right_side
from lostexits.traces import checked_counts, is_plain_int

MOST_LINES = 1500


def lines_to_start(line):
    """Return the lines that carry the bound of a line to moment 0."""
    moment, bound, source = line
    # By each event alone, the total before it is at most the total after it.
    return [(at, bound, ("event", at)) for at in reversed(range(moment))]


def derivation(trace, facts):
    """Return a derivation, or None if the facts are consistent."""
    created = checked_counts(trace)
    check_facts(created, facts)
    bounds, lines = lowered(all_inequalities(Layout(trace, created), facts), first_bounds(created))
    return lines + lines_to_start(lines[-1]) if bounds is None else None


def is_source(value):
    """Return whether a value has the form of a source; the index may be too large."""
    if not isinstance(value, tuple) or len(value) != 2:
        return False
    return isinstance(value[0], str) and is_plain_int(value[1])


def is_line(value):
    """Return whether a value has the form of a line."""
    if not isinstance(value, tuple) or len(value) != 3:
        return False
    return is_plain_int(value[0]) and is_plain_int(value[1]) and is_source(value[2])


def sorted_by_source(inequalities):
    """Return the dict from each source to the list of its inequalities."""
    found = {}
    for inequality in inequalities:
        found.setdefault(inequality[-1], []).append(inequality)
    return found


def follows(line, by_source, bounds):
    """Return whether a line follows if these are the smallest bounds that are known before it."""
    moment, bound, source = line
    given = [inequality for inequality in by_source.get(source, []) if inequality[0] == moment]
    return any([right_side(inequality, bounds) <= bound for inequality in given])


def all_follow(lines, by_source, start):
    """Return whether all lines of a list follow from the lines before them and the first bounds."""
    bounds = start[:]
    for line in lines:
        if not is_line(line) or not follows(line, by_source, bounds):
            return False
        bounds[line[0]] = min(bounds[line[0]], line[1])
    return True


def is_derivation(trace, facts, value):
    """Return whether a value is a derivation."""
    created = checked_counts(trace)
    check_facts(created, facts)
    if not isinstance(value, list) or not 1 <= len(value) <= MOST_LINES:
        return False
    by_source = sorted_by_source(all_inequalities(Layout(trace, created), facts))
    if not all_follow(value, by_source, first_bounds(created)):
        return False
    moment, bound, source = value[-1]
    return moment == 0 and bound < 0
