"""Conflicts: which facts cannot hold together, and which ones to drop so that the others can."""

from lostexits.facts import check_facts
from lostexits.solutions import solutions_of
from lostexits.traces import checked_counts


def with_one_more(chosen, many):
    """Return the ascending tuples of indices below a number that go on with one more index."""
    first = chosen[-1] + 1 if chosen else 0
    return [chosen + (index,) for index in range(first, many)]


def contains(indices, part):
    """Return whether a tuple of indices contains all those of another one."""
    return all([index in indices for index in part])


def meets(indices, others):
    """Return whether two tuples of indices have an index in common."""
    return any([index in indices for index in others])


def enlarged(consistent, facts, conflicts):
    """Return the dict of the tuples with one index more that contain no conflict, with their completions."""
    larger = {}
    for chosen in consistent:
        for indices in with_one_more(chosen, len(facts)):
            if not any([contains(indices, conflict) for conflict in conflicts]):
                larger[indices] = consistent[chosen].with_fact(facts[indices[-1]])
    return larger


def minimal_conflicts(trace, facts):
    """Return the ascending list of all minimal conflicts between facts."""
    created = checked_counts(trace)
    check_facts(created, facts)
    conflicts = []
    # By the number of facts, so that every smaller conflict is known before.
    candidates = {(): solutions_of(trace, created, ())}
    while candidates:
        conflicts.extend([indices for indices in candidates if not candidates[indices].exist()])
        consistent = {indices: candidates[indices] for indices in candidates if candidates[indices].exist()}
        candidates = enlarged(consistent, facts, conflicts)
    return sorted(conflicts)


def fewest_dropped(trace, facts):
    """Return the shortest tuple of indices of facts without which the others are consistent, or None."""
    conflicts = minimal_conflicts(trace, facts)
    if conflicts == [()]:
        return None
    candidates = [()]
    enough = []
    # To drop all facts is enough, so this comes to an end.
    while not enough:
        enough = [indices for indices in candidates if all([meets(indices, conflict) for conflict in conflicts])]
        candidates = [longer for indices in candidates for longer in with_one_more(indices, len(facts))]
    return enough[0]
