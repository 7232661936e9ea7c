"""A second calculation of what a completion means, and values to test with.

It shares nothing with the package: the stack is a chain of frames, each of which knows the frame
below it, and every single return is noted with the first moment at which the frame is not active.
"""

from itertools import product
from random import Random

T = (("enter", "main"), ("enter", "load"), ("enter", "parse"), ("exit", 1), ("enter", "save"))


class Impossible(Exception):
    pass


class Walk:
    def __init__(self):
        self.below = {}
        self.innermost = None
        self.ended = {}

    def give_back(self, moment):
        if self.innermost is None:
            raise Impossible
        self.ended[self.innermost] = moment
        self.innermost = self.below[self.innermost]

    def chain(self):
        chain = []
        frame = self.innermost
        while frame is not None:
            chain.append(frame)
            frame = self.below[frame]
        return tuple(reversed(chain))

    def call(self):
        frame = len(self.below)
        self.below[frame] = self.innermost
        self.innermost = frame

    def happen(self, event, moment):
        kind = event[0]
        if kind == "tail":
            self.give_back(moment)
        if kind in ("enter", "tail"):
            self.call()
        if kind == "exit":
            if self.innermost != event[1]:
                raise Impossible
            self.give_back(moment)
        if kind == "catch":
            while self.innermost != event[1]:
                self.give_back(moment)


class Meaning:
    """What a completion says: the results of stacks, totals, callers and ends."""

    def __init__(self, trace, completion):
        walk = Walk()
        self.stacks = []
        for moment, unseen in enumerate(completion):
            for _ in range(unseen):
                walk.give_back(moment)
            self.stacks.append(walk.chain())
            if moment < len(trace):
                walk.happen(trace[moment], moment + 1)
        self.totals = [
            sum(1 for ended in walk.ended.values() if ended <= moment) for moment in range(len(trace) + 1)
        ]
        self.callers = [walk.below[frame] for frame in range(len(walk.below))]
        self.ends = [walk.ended.get(frame) for frame in range(len(walk.below))]


def meaning(trace, completion):
    """The meaning of a tuple of counts, or None if it is not a valid completion."""
    try:
        return Meaning(trace, completion)
    except Impossible:
        return None


def small_traces(length):
    """All traces of a length with the names f and g for entries and tail calls."""
    if length == 0:
        yield ()
        return
    for trace in small_traces(length - 1):
        created = sum(1 for event in trace if event[0] in ("enter", "tail"))
        yield trace + (("mark",),)
        yield trace + (("enter", "f"),)
        if created:
            yield trace + (("tail", "g"),)
        for frame in range(created):
            yield trace + (("exit", frame),)
            yield trace + (("catch", frame),)


def rows(length, most):
    """All tuples of a length with numbers from 0 to a largest one."""
    return product(range(most + 1), repeat=length)


def random_pairs(seed, many):
    """Pairs of a long trace and one of its valid completions, the same ones in every run."""
    chance = Random(seed)
    for _ in range(many):
        yield random_pair(chance)


def random_pair(chance):
    trace = ()
    completion = ()
    for _ in range(chance.randrange(4, 25)):
        completion += (random_unseen(chance, trace, completion),)
        trace += (random_event(chance, trace, completion),)
    completion += (random_unseen(chance, trace, completion),)
    return trace, completion


def random_unseen(chance, trace, completion):
    depth = len(meaning(trace, completion + (0,)).stacks[-1])
    return chance.choice((0, 0, 0, 0, min(1, depth), min(1, depth), chance.randrange(depth + 1)))


def random_event(chance, trace, completion):
    known = meaning(trace, completion)
    stack = known.stacks[-1]
    choices = [("mark",)]
    if len(known.callers) < 10:
        choices += [("enter", "f"), ("enter", "g")]
        if stack:
            choices.append(("tail", "h"))
    if stack:
        choices += [("exit", stack[-1]), ("catch", chance.choice(stack))]
    return chance.choice(choices)


def nested(many, shape):
    value = shape()
    for _ in range(many - 1):
        value = shape([value])
    return value


# Values of every kind that an argument is checked against; none is a trace or a completion,
# except that the empty tuple is a trace.
ODD_VALUES = [
    None,
    True,
    False,
    0,
    1,
    -1,
    10**40 - 1,
    -(10**40 - 1),
    "",
    "main",
    "enter",
    "a" * 1000,
    [],
    (),
    [[]],
    [()],
    ([],),
    ((),),
    (None,),
    (True,),
    ("",),
    ("mark",),
    ("enter", "main"),
    [("mark",)],
    [["mark"]],
    (["mark"],),
    [("enter", "main")],
    [0] * 1500,
    (-1,) * 1500,
    (("mark",),) * 1500,
    nested(10, list),
    nested(10, tuple),
]
