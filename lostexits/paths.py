"""All completions of a trace that satisfy facts, as the paths through a graph.

A node of the graph stands for a stack at a moment, some of whose frames may have returned unseen there.
From it a path goes either to the shorter stack after one more unseen return at the same moment, or onward
to the stack behind the event. So every completion is one path from the start to the end. Beginnings of
completions share a node where the same can follow, so there are far fewer nodes than completions.

What can follow is told by the stack and by the limits: for this moment and each later one, the pair of the
lowest and the highest depth that the depths at earlier moments leave. There are none if no fact compares depths.
"""

from lostexits.completions import stack_after
from lostexits.facts import LARGEST_NUMBER, holds_on

NOWHERE = 0
END = 1


def comparison(created, fact):
    """Return (first, last, low, high): the depth at moment first minus that at moment last is from low to high."""
    kind, one, other = fact[:3]
    if kind == "returns":
        entered = created[other] - created[one]
        return one, other, fact[3] - entered, fact[4] - entered
    if one < other:
        return one, other, fact[3], LARGEST_NUMBER
    return other, one, -LARGEST_NUMBER, -fact[3]


def narrowed(limits, compared, depth):
    """Return the limits for later moments that comparisons with a depth leave."""
    left = list(limits)
    for at, low, high in compared:
        lowest, highest = left[at]
        left[at] = (max(lowest, depth - high), min(highest, depth - low))
    return tuple(left)


class Paths:
    """The graph, as lists with one item for each node: how many paths lead to the end, and the nodes that follow.

    Every node has a larger index than those that follow it. From the node NOWHERE no path leads to the end.
    """

    def __init__(self, trace, created, facts):
        self.events = trace
        self.created = created
        self.shown = {}
        self.compared = {}
        for fact in facts:
            self.sort_in(fact)
        self.ways = [0, 1]
        self.shorter = [NOWHERE, NOWHERE]
        self.onward = [NOWHERE, NOWHERE]
        # For each moment, the nodes by their stacks and limits.
        self.known = [{} for moment in created]
        # At first, any depth is left for every moment.
        limits = ((0, LARGEST_NUMBER),) * len(created) if self.compared else ()
        self.start = self.node_at(0, (), limits)

    def sort_in(self, fact):
        """Put a fact to the moment at which it is looked at."""
        if fact[0] in ("returns", "deeper"):
            first, last, low, high = comparison(self.created, fact)
            self.compared.setdefault(first, []).append((last - first - 1, low, high))
        else:
            moment = fact[1] if fact[0] in ("depth", "stack") else fact[2]
            self.shown.setdefault(moment, []).append(fact)

    def node_at(self, moment, stack, limits):
        """Return the node for a stack at a moment, with the limits from this moment on."""
        known = self.known[moment]
        node = known.get((stack, limits))
        if node is None:
            shorter = self.node_at(moment, stack[:-1], limits) if stack else NOWHERE
            onward = self.node_behind(moment, stack, limits)
            node = len(self.ways)
            self.ways.append(self.ways[shorter] + self.ways[onward])
            self.shorter.append(shorter)
            self.onward.append(onward)
            known[(stack, limits)] = node
        return node

    def node_behind(self, moment, stack, limits):
        """Return the node behind an event if the stack before it is this one."""
        if limits and not limits[0][0] <= len(stack) <= limits[0][1]:
            return NOWHERE
        if moment in self.shown:
            reached = {moment: stack}
            for fact in self.shown[moment]:
                if not holds_on(self.created, reached, fact):
                    return NOWHERE
        if moment == len(self.events):
            return END
        after = stack_after(stack, self.events[moment], self.created[moment])
        if after is None:
            return NOWHERE
        later = limits[1:]
        if moment in self.compared:
            later = narrowed(later, self.compared[moment], len(stack))
        return self.node_at(moment + 1, after, later)
