"""The contraries of a fact: facts of which at least one holds in a completion exactly if the fact does not.

Each of them gives inequalities as any fact does, so they tell whether a completion without the fact exists.
The list `created` has, for each moment of a trace, the number of frames that are created before it.
"""

from lostexits.facts import LARGEST_NUMBER


def ranges_outside(low, high):
    """Return the ranges of numbers below and above a range, without the empty ones."""
    return [pair for pair in ((0, low - 1), (high + 1, LARGEST_NUMBER)) if pair[0] <= pair[1]]


def depth_contraries(created, fact):
    """Return the contraries of a fact of the kind "depth"."""
    return [("depth", fact[1], low, high) for low, high in ranges_outside(fact[2], fact[3])]


def active_contraries(created, fact):
    """Return the contrary, in a list, of a fact of the kind "active"."""
    return [("returned", fact[1], fact[2])]


def returned_contraries(created, fact):
    """Return the contrary, in a list, of a fact of the kind "returned"."""
    return [("active", fact[1], fact[2])]


def innermost_contraries(created, fact):
    """Return the contraries of a fact of the kind "innermost"."""
    # Only frames that are created later can be above the frame.
    above = [("active", frame, fact[2]) for frame in range(fact[1] + 1, created[fact[2]])]
    return active_contraries(created, fact) + above


def returns_contraries(created, fact):
    """Return the contraries of a fact of the kind "returns"."""
    return [("returns", fact[1], fact[2], low, high) for low, high in ranges_outside(fact[3], fact[4])]


def deeper_contraries(created, fact):
    """Return the contrary, in a list, of a fact of the kind "deeper"."""
    return [("deeper", fact[2], fact[1], 1 - fact[3])]


def stack_contraries(created, fact):
    """Return the contraries of a fact of the kind "stack"."""
    moment = fact[1]
    others = [frame for frame in range(created[moment]) if frame not in fact[2]]
    return [("returned", frame, moment) for frame in fact[2]] + [("active", frame, moment) for frame in others]


CONTRARIES = {
    "depth": depth_contraries,
    "active": active_contraries,
    "returned": returned_contraries,
    "innermost": innermost_contraries,
    "returns": returns_contraries,
    "deeper": deeper_contraries,
    "stack": stack_contraries,
}


def contraries(created, fact):
    """Return the list of the contraries of a fact."""
    rule = CONTRARIES[fact[0]]
    return rule(created, fact)
