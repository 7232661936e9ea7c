"""A second calculation of what completions, facts and derivations mean, and values to test with.

It shares nothing with the package: the stack is a chain of frames, each of which knows the frame
below it, and every single return is noted with the first moment at which the frame is not active.
A fact is judged by these ends, solutions are looked for among all valid completions, and a line of a
derivation is judged by the inequalities as the document writes them down.
"""

import sys
from collections import Counter
from itertools import combinations, product
from random import Random

T = (("enter", "main"), ("enter", "load"), ("enter", "parse"), ("exit", 1), ("enter", "save"))
# Traces in which no completion is valid.
WITHOUT_COMPLETION = (
    (("enter", "f"), ("exit", 0), ("exit", 0)),
    (("enter", "f"), ("exit", 0), ("catch", 0)),
    (("enter", "f"), ("exit", 0), ("tail", "g")),
    (("enter", "f"), ("tail", "g"), ("exit", 0)),
    (("enter", "f"), ("tail", "g"), ("catch", 0)),
    (("enter", "f"), ("enter", "f"), ("exit", 0), ("exit", 1)),
    (("enter", "f"), ("enter", "f"), ("catch", 0), ("exit", 1)),
)


class Impossible(Exception):
    pass


class Walk:
    def __init__(self):
        self.below = {}
        self.innermost = None
        self.ended = {}

    def give_back(self, moment):
        if self.innermost is None:
            raise Impossible
        self.ended[self.innermost] = moment
        self.innermost = self.below[self.innermost]

    def chain(self):
        chain = []
        frame = self.innermost
        while frame is not None:
            chain.append(frame)
            frame = self.below[frame]
        return tuple(reversed(chain))

    def call(self):
        frame = len(self.below)
        self.below[frame] = self.innermost
        self.innermost = frame

    def happen(self, event, moment):
        kind = event[0]
        if kind == "tail":
            self.give_back(moment)
        if kind in ("enter", "tail"):
            self.call()
        if kind == "exit":
            if self.innermost != event[1]:
                raise Impossible
            self.give_back(moment)
        if kind == "catch":
            while self.innermost != event[1]:
                self.give_back(moment)


class Meaning:
    """What a completion says: the results of stacks, totals, callers and ends."""

    def __init__(self, trace, completion):
        walk = Walk()
        self.stacks = []
        for moment, unseen in enumerate(completion):
            for _ in range(unseen):
                walk.give_back(moment)
            self.stacks.append(walk.chain())
            if moment < len(trace):
                walk.happen(trace[moment], moment + 1)
        self.totals = [
            sum(1 for ended in walk.ended.values() if ended <= moment) for moment in range(len(trace) + 1)
        ]
        self.callers = [walk.below[frame] for frame in range(len(walk.below))]
        self.ends = [walk.ended.get(frame) for frame in range(len(walk.below))]


def meaning(trace, completion):
    """The meaning of a tuple of counts, or None if it is not a valid completion."""
    try:
        return Meaning(trace, completion)
    except Impossible:
        return None


def small_traces(length):
    """All traces of a length with the names f and g for entries and tail calls."""
    if length == 0:
        yield ()
        return
    for trace in small_traces(length - 1):
        created = sum(1 for event in trace if event[0] in ("enter", "tail"))
        yield trace + (("mark",),)
        yield trace + (("enter", "f"),)
        if created:
            yield trace + (("tail", "g"),)
        for frame in range(created):
            yield trace + (("exit", frame),)
            yield trace + (("catch", frame),)


def rows(length, most):
    """All tuples of a length with numbers from 0 to a largest one."""
    return product(range(most + 1), repeat=length)


def random_pairs(seed, many):
    """Pairs of a long trace and one of its valid completions, the same ones in every run."""
    chance = Random(seed)
    for _ in range(many):
        yield random_pair(chance)


def random_pair(chance, events=None):
    trace = ()
    completion = ()
    for _ in range(events or chance.randrange(4, 25)):
        completion += (random_unseen(chance, trace, completion),)
        trace += (random_event(chance, trace, completion),)
    completion += (random_unseen(chance, trace, completion),)
    return trace, completion


def random_unseen(chance, trace, completion):
    depth = len(meaning(trace, completion + (0,)).stacks[-1])
    return chance.choice((0, 0, 0, 0, min(1, depth), min(1, depth), chance.randrange(depth + 1)))


def random_event(chance, trace, completion):
    known = meaning(trace, completion)
    stack = known.stacks[-1]
    choices = [("mark",)]
    if len(known.callers) < 10:
        choices += [("enter", "f"), ("enter", "g")]
        if stack:
            choices.append(("tail", "h"))
    if stack:
        choices += [("exit", stack[-1]), ("catch", chance.choice(stack))]
    return chance.choice(choices)


def created(trace, moment):
    return sum(1 for event in trace[:moment] if event[0] in ("enter", "tail"))


def births(trace):
    return [at for at, event in enumerate(trace) if event[0] in ("enter", "tail")]


def alive(trace, known, moment):
    """The frames that are active at a moment, by the ends of all frames."""
    frames = enumerate(births(trace))
    return tuple(i for i, at in frames if at < moment and (known.ends[i] is None or moment < known.ends[i]))


def true(trace, known, fact):
    """Whether a fact holds in a completion with this meaning."""
    kind, *parts = fact
    if kind == "depth":
        return len(alive(trace, known, parts[0])) in range(parts[1], parts[2] + 1)
    if kind == "active":
        return parts[0] in alive(trace, known, parts[1])
    if kind == "returned":
        return known.ends[parts[0]] is not None and known.ends[parts[0]] <= parts[1]
    if kind == "innermost":
        return max(alive(trace, known, parts[1]), default=None) == parts[0]
    if kind == "returns":
        between = [end for end in known.ends if end is not None and parts[0] < end <= parts[1]]
        return len(between) in range(parts[2], parts[3] + 1)
    if kind == "deeper":
        return len(alive(trace, known, parts[0])) - len(alive(trace, known, parts[1])) >= parts[2]
    return alive(trace, known, parts[0]) == parts[1]


def latest(fact):
    """The moment from which on it is known whether a fact holds."""
    kind, *parts = fact
    if kind == "deeper":
        return max(parts[0], parts[1])
    return parts[0] if kind in ("depth", "stack") else parts[1]


def all_completions(trace, facts=(), most=10**6):
    """All valid completions that satisfy the facts, in ascending order, as pairs with their meanings.

    None if there are more beginnings of such completions than the largest number.
    """
    found = [()]
    for moment in range(len(trace) + 1):
        due = [fact for fact in facts if latest(fact) == moment]
        longer = [row + (unseen,) for row in found for unseen in range(created(trace, moment) + 1)]
        pairs = [(row, meaning(trace[:moment], row)) for row in longer]
        pairs = [pair for pair in pairs if pair[1] and all(true(trace[:moment], pair[1], fact) for fact in due)]
        found = [row for row, known in pairs]
        if len(found) > most:
            return None
    return pairs


def all_facts(trace, numbers):
    """All facts about a trace with these numbers in the places of low, high and by, and the negatives of by."""
    moments = range(len(trace) + 1)
    ranges = [(low, high) for low in numbers for high in numbers if low <= high]
    leads = sorted(set(numbers) | {-number for number in numbers})
    found = [("depth", k, low, high) for k in moments for low, high in ranges]
    for kind in ("active", "returned", "innermost"):
        found += [(kind, i, k) for i, at in enumerate(births(trace)) for k in range(at + 1, len(trace) + 1)]
    found += [("returns", j, k, low, high) for j in moments for k in moments if j < k for low, high in ranges]
    found += [("deeper", j, k, by) for j in moments for k in moments if j != k for by in leads]
    for k in moments:
        frames = range(created(trace, k))
        found += [("stack", k, stack) for size in range(len(frames) + 1) for stack in combinations(frames, size)]
    return found


def satisfying(trace, pairs, facts):
    """Those pairs of a completion and its meaning that satisfy all facts."""
    return [pair for pair in pairs if all(true(trace, pair[1], fact) for fact in facts)]


def extreme(pairs, choose):
    """The completion whose totals are all chosen by min or max among those of the pairs, or None."""
    if not pairs:
        return None
    wanted = [choose(column) for column in zip(*(known.totals for row, known in pairs))]
    return next((row for row, known in pairs if known.totals == wanted), None)


def stack_behind(stack, event, frame):
    """The stack behind an event that creates this frame if it creates one, or None if it is impossible."""
    kind, *detail = event
    if kind == "enter":
        return stack + (frame,)
    if kind == "tail":
        return stack[:-1] + (frame,) if stack else None
    if kind == "exit":
        return stack[:-1] if stack and stack[-1] == detail[0] else None
    if kind == "catch":
        return tuple(other for other in stack if other <= detail[0]) if detail[0] in stack else None
    return stack


def shows(stack, fact):
    """Whether a fact about one moment holds if this is the stack there."""
    kind, *parts = fact
    if kind == "depth":
        return parts[1] <= len(stack) <= parts[2]
    if kind == "stack":
        return stack == parts[1]
    if kind == "innermost":
        return bool(stack) and stack[-1] == parts[0]
    return (parts[0] in stack) == (kind == "active")


def judge_pair(fact, sizes):
    """Whether a fact about two moments holds, given for both the pair of the depth and the created frames."""
    kind, first, second, *numbers = fact
    (depth, frames), (other, others) = sizes[first], sizes[second]
    if kind == "deeper":
        return depth - other >= numbers[0]
    return numbers[0] <= (others - other) - (frames - depth) <= numbers[1]


def reachable(trace, facts, wanted=()):
    """Whether a completion satisfies the facts and has stacks as wanted, also where there are very many completions.

    What is wanted is given as pairs of a moment and a condition on the stack there. From moment to moment, only
    the different stacks are kept, each with the depths that facts about two moments will still ask for.
    """
    double = [fact for fact in facts if fact[0] in ("returns", "deeper")]
    single = [fact for fact in facts if fact not in double]
    states = {((), ())}
    for moment in range(len(trace) + 1):
        frames = created(trace, moment)
        due = [fact for fact in single if latest(fact) == moment]
        closed = [fact for fact in double if latest(fact) == moment]
        later = {min(fact[1], fact[2]) for fact in double if latest(fact) > moment}
        conditions = [condition for at, condition in wanted if at == moment]
        longer = set()
        for before, kept in states:
            for depth in range(len(before) + 1):
                stack = before[:depth]
                sizes = dict(kept) | {moment: (depth, frames)}
                if not all(shows(stack, fact) for fact in due) or not all(judge_pair(fact, sizes) for fact in closed):
                    continue
                behind = stack_behind(stack, trace[moment], frames) if moment < len(trace) else stack
                if behind is not None and all(condition(stack) for condition in conditions):
                    longer.add((behind, tuple((at, sizes[at]) for at in sorted(sizes) if at in later)))
        states = longer
    return len(states) > 0


def told_status(trace, pairs, fact):
    """How a fact stands among the completions of the pairs."""
    judged = {true(trace, known, fact) for row, known in pairs}
    if len(judged) != 1:
        return "open" if judged else "inconsistent"
    return "entailed" if judged == {True} else "excluded"


def told_depths(trace, pairs, moment):
    """The depths at a moment: how many of the frames created before it have not ended."""
    return sorted({len(alive(trace, known, moment)) for row, known in pairs})


def told_ends(pairs, frame):
    found = {known.ends[frame] for row, known in pairs}
    return sorted(found - {None}) + [None] * (None in found)


def told_callers(pairs, frame):
    found = {known.callers[frame] for row, known in pairs}
    return [None] * (None in found) + sorted(found - {None})


def told_certain(trace, pairs, moment):
    if not pairs:
        return None
    there = [alive(trace, known, moment) for row, known in pairs]
    frames = range(created(trace, moment))
    always = [frame for frame in frames if all(frame in active for active in there)]
    return always, [frame for frame in frames if not any(frame in active for active in there)]


def told_sample(trace, pairs):
    """The first moment with the smallest of the largest groups of equal stacks, and its size."""
    if len(pairs) < 2:
        return None
    found = []
    for moment in range(len(trace) + 1):
        shown = Counter(alive(trace, known, moment) for row, known in pairs)
        found.append((max(shown.values()), moment))
    many, moment = min(found)
    return moment, many


def index_tuples(many):
    """All ascending tuples of indices below a number, the shorter ones first, those of a length in ascending order."""
    return [chosen for size in range(many + 1) for chosen in combinations(range(many), size)]


def told_conflicts(many, consistent):
    """The minimal conflicts, given whether the facts with each tuple of indices are consistent."""
    found = []
    for chosen in index_tuples(many):
        smaller = [tuple(other for other in chosen if other != index) for index in chosen]
        if not consistent[chosen] and all(consistent[other] for other in smaller):
            found.append(chosen)
    return sorted(found)


def told_dropped(many, consistent):
    """The first of the shortest tuples of indices without which the facts are consistent, or None."""
    for dropped in index_tuples(many):
        if consistent[tuple(index for index in range(many) if index not in dropped)]:
            return dropped
    return None


def subsets_consistent(trace, pairs, facts):
    """For each tuple of indices of facts whether one of the pairs satisfies all of these facts."""
    rows = [[true(trace, known, fact) for fact in facts] for row, known in pairs]
    return {chosen: any(all(row[i] for i in chosen) for row in rows) for chosen in index_tuples(len(facts))}


def renamed(trace):
    """The trace with another name for each call."""
    letters = "abcdefghijklmnopqrstuvwxyz"
    calls = ("enter", "tail")
    return tuple((event[0], "x" + letters[at]) if event[0] in calls else event for at, event in enumerate(trace))


class Inequalities:
    """The inequalities of a trace, each as the pair of its left moment and its right side, a function of p."""

    def __init__(self, trace):
        self.trace = trace
        self.a = births(trace)
        self.b = [1 if trace[at][0] == "tail" else 0 for at in self.a]

    def e(self, k):
        return created(self.trace, k)

    def tail_calls(self, i, k):
        return [at for at, event in enumerate(self.trace) if event[0] == "tail" and self.a[i] < at < k]

    def active(self, i, k):
        e, a, b = self.e, self.a[i], self.b[i]
        for moment in range(a + 1, k + 1):
            yield moment, lambda p, moment=moment: p(a) + e(moment) - e(a) - 1 + b
        for at in self.tail_calls(i, k):
            yield at, lambda p, at=at: p(a) + e(at) - e(a) - 2 + b

    def returned(self, i, k):
        e, a, b = self.e, self.a[i], self.b[i]

        def right(p):
            plain = [p(moment) - e(moment) + e(a) - b for moment in range(a + 1, k + 1)]
            return max(plain + [p(at) - e(at) + e(a) + 1 - b for at in self.tail_calls(i, k)])

        yield a, right

    def innermost(self, i, k):
        e, a, b = self.e, self.a[i], self.b[i]
        yield from self.active(i, k)
        yield a, lambda p: p(k) - e(k) + e(a) + 1 - b

    def event(self, k):
        e = self.e
        kind, *rest = self.trace[k]
        if kind in ("tail", "exit"):
            yield k, lambda p: p(k + 1) - 1
        else:
            yield k, lambda p: p(k + 1)
        if kind == "tail":
            yield k, lambda p: e(k) - 1
        if kind == "exit":
            yield from self.innermost(rest[0], k)
        if kind == "catch":
            a, b = self.a[rest[0]], self.b[rest[0]]
            yield from self.active(rest[0], k)
            yield a, lambda p: p(k + 1) - e(k) + e(a) + 1 - b

    def fact(self, fact):
        e = self.e
        kind, *parts = fact
        if kind == "depth":
            k, low, high = parts
            yield k, lambda p: e(k) - low
            yield 0, lambda p: p(k) - e(k) + high
        if kind in ("active", "returned", "innermost"):
            yield from getattr(self, kind)(*parts)
        if kind == "returns":
            j, k, low, high = parts
            yield k, lambda p: p(j) + high
            yield j, lambda p: p(k) - low
        if kind == "deeper":
            j, k, by = parts
            yield j, lambda p: p(k) + e(j) - e(k) - by
        if kind == "stack":
            k, stack = parts
            for i in range(e(k)):
                yield from self.active(i, k) if i in stack else self.returned(i, k)


def line_follows(trace, facts, before, line):
    """Whether a line follows from the lines before it."""
    moment, bound, (word, index) = line
    told = Inequalities(trace)

    def p(k):
        return min([created(trace, k)] + [known for at, known, source in before if at == k])

    if not 0 <= index < len(trace if word == "event" else facts):
        return False
    given = told.event(index) if word == "event" else told.fact(facts[index])
    return any(left == moment and right(p) <= bound for left, right in given)


def derives(trace, facts, lines):
    """Whether lines of the right form are a derivation."""
    if not 1 <= len(lines) <= 1500:
        return False
    if not all(line_follows(trace, facts, lines[:at], line) for at, line in enumerate(lines)):
        return False
    return lines[-1][0] == 0 and lines[-1][1] < 0


def large_trace(chance):
    """A trace of 24 events with 10 frames; most of these have a valid completion."""
    trace, completion = random_pair(chance, 24)
    while created(trace, 24) < 10:
        trace, completion = random_pair(chance, 24)
    if chance.randrange(4) == 0:
        at = chance.choice([at for at in range(24) if trace[at][0] not in ("enter", "tail") and created(trace, at)])
        other = (chance.choice(("exit", "catch")), chance.randrange(created(trace, at)))
        trace = trace[:at] + (other,) + trace[at + 1 :]
    return trace


def near_fact(chance, trace, known):
    """A fact of any kind that holds, or nearly holds, in a completion with this meaning."""
    depths = [len(stack) for stack in known.stacks]
    first, last = sorted(chance.sample(range(len(trace) + 1), 2))
    frame = chance.randrange(created(trace, len(trace)))
    moment = chance.randrange(births(trace)[frame] + 1, len(trace) + 1)
    many = known.totals[last] - known.totals[first]
    by = depths[last] - depths[first]
    return chance.choice(
        (
            ("depth", last, max(0, depths[last] - 1), depths[last]),
            ("active", frame, moment),
            ("returned", frame, moment),
            ("innermost", frame, moment),
            ("returns", first, last, max(0, many - 1), many),
            chance.choice((("deeper", last, first, by), ("deeper", first, last, -by))),
            ("stack", last, known.stacks[last]),
            ("stack", first, known.stacks[first]),
        )
    )


def near_facts(chance, trace, known, many):
    """A tuple of facts; almost all of them hold in a completion with this meaning."""
    facts = ()
    while len(facts) < many:
        fact = near_fact(chance, trace, known)
        if true(trace, known, fact) or chance.randrange(25) == 0:
            facts += (fact,)
    return facts


def large_problems(seed, many):
    """Traces of 24 events and 10 frames with 8 facts that leave only few completions, and these."""
    chance = Random(seed)
    while many:
        trace, completion = random_pair(chance, 24)
        if created(trace, 24) < 10:
            continue
        facts = near_facts(chance, trace, meaning(trace, completion), 8)
        pairs = all_completions(trace, facts, 60)
        if pairs is not None:
            many -= 1
            yield trace, facts, pairs


def some_traces(chance):
    """All traces of up to four events, and many of five and six."""
    for length in range(7):
        for trace in small_traces(length):
            if length < 5 or chance.randrange(3 if length == 5 else 12) == 0:
                yield trace


def some_facts(chance, trace, pairs, facts):
    """Tuples of facts: any, and such that hold together in a completion."""
    for _ in range(3):
        yield tuple(chance.choice(facts) for _ in range(chance.randrange(9)))
        if pairs and created(trace, len(trace)):
            yield near_facts(chance, trace, chance.choice(pairs)[1], chance.randrange(9))
            yield near_facts(chance, trace, chance.choice(pairs)[1], 2)


def work(function, *arguments):
    """How many calls, of own and of builtin functions, a call makes: a measure of its work without a clock."""
    many = 0

    def note(frame, event, argument):
        nonlocal many
        many += event in ("call", "c_call")

    sys.setprofile(note)
    try:
        function(*arguments)
    except ValueError:
        pass
    finally:
        sys.setprofile(None)
    return many


def nested(many, shape):
    value = shape()
    for _ in range(many - 1):
        value = shape([value])
    return value


# Values of every kind that an argument is checked against; none is a trace or a completion,
# except that the empty tuple is a trace.
ODD_VALUES = [
    None,
    True,
    False,
    0,
    1,
    -1,
    10**40 - 1,
    -(10**40 - 1),
    "",
    "main",
    "enter",
    "a" * 1000,
    [],
    (),
    [[]],
    [()],
    ([],),
    ((),),
    (None,),
    (True,),
    ("",),
    ("mark",),
    ("enter", "main"),
    [("mark",)],
    [["mark"]],
    (["mark"],),
    [("enter", "main")],
    [0] * 1500,
    (-1,) * 1500,
    (("mark",),) * 1500,
    nested(10, list),
    nested(10, tuple),
]
# Values that are no trace, and values that are no facts about the trace of the examples.
NOT_TRACES = [value for value in ODD_VALUES if value != ()] + [
    list(T),
    (("mark",),) * 25,
    (("enter", "f"),) * 11,
    (("tail", "g"),),
]
ANY_DEPTH = ("depth", 4, 0, 10)
NOT_FACTS = [value for value in ODD_VALUES if value != ()] + [
    ANY_DEPTH,
    [ANY_DEPTH],
    (ANY_DEPTH,) * 9,
    (ANY_DEPTH, list(ANY_DEPTH)),
    (ANY_DEPTH, ("depth", 6, 0, 10)),
    (("active", 3, 4),),
    (("active", True, 4),),
    (("depth", False, 1, 1),),
    (("stack", 4, [0]),),
    (ANY_DEPTH,) * 7 + (None,),
]
# Values that are no fact about the trace of the examples.
NOT_A_FACT = ODD_VALUES + [
    list(ANY_DEPTH),
    (ANY_DEPTH,),
    ("depth", 6, 0, 1),
    ("depth", 4, 0, 11),
    ("depth", True, 0, 1),
    ("active", 3, 4),
    ("stack", 4, [0]),
    ("stack", 4, (3,)),
    ("deeper", 4, 4, 0),
    ("deeper", 4, 3, 11),
    ("returns", 4, 4, 0, 0),
    ("returned", 0, 0),
    ("innermost", 4, 5),
]
