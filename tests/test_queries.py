import copy
import unittest
from itertools import permutations, product
from random import Random

from reference import (
    ANY_DEPTH,
    NOT_A_FACT,
    NOT_FACTS,
    NOT_TRACES,
    ODD_VALUES,
    WITHOUT_COMPLETION,
    T,
    all_completions,
    all_facts,
    alive,
    created,
    large_problems,
    large_trace,
    meaning,
    near_fact,
    near_facts,
    random_pair,
    reachable,
    renamed,
    satisfying,
    shows,
    small_traces,
    some_facts,
    some_traces,
    told_callers,
    told_certain,
    told_depths,
    told_ends,
    told_status,
    true,
    work,
)

from lostexits.derivations import derivation
from lostexits.errors import InvalidFact, InvalidFacts, InvalidFrame, InvalidMoment, InvalidTrace
from lostexits.queries import certain_frames, possible_callers, possible_depths, possible_ends, status
from lostexits.solving import fewest_returned, most_returned

ENTER = ("enter", "f")
TAIL = ("tail", "g")
MARK = ("mark",)
LARGE = 10**40 - 1
OF_MOMENTS = (possible_depths, certain_frames)
OF_FRAMES = (possible_ends, possible_callers)
ALL = (status,) + OF_MOMENTS + OF_FRAMES
NUMBERS = (0, 1, 2, 3, 10)
TAILS = (ENTER, ENTER, TAIL, ENTER, TAIL)
# Long traces in which no completion is valid.
LONG_WITHOUT_COMPLETION = (
    (ENTER,) * 10 + (("exit", 0), ("exit", 9)) + (MARK,) * 12,
    (ENTER,) * 10 + (MARK,) * 12 + (("exit", 3), ("catch", 3)),
    (ENTER, ("exit", 0), TAIL) + (ENTER,) * 8 + (MARK,) * 13,
    (ENTER,) * 9 + (("catch", 2),) * 7 + (TAIL,) + (("catch", 0), ("exit", 8)) + (MARK,) * 5,
)


class Examples(unittest.TestCase):
    def test_status(self):
        self.assertEqual(status(T, (("deeper", 5, 4, 1),), ("active", 3, 5)), "entailed")

    def test_possible_depths(self):
        self.assertEqual(possible_depths(T, (), 4), [0, 1])

    def test_possible_ends(self):
        self.assertEqual(possible_ends(T, (), 0), [1, 4, 5, None])

    def test_possible_callers(self):
        self.assertEqual(possible_callers(T, (), 3), [None, 0])

    def test_certain_frames(self):
        self.assertEqual(certain_frames(T, (), 4), ([], [1, 2]))


class WorkedByHand(unittest.TestCase):
    def test_empty_trace(self):
        self.assertEqual(possible_depths((), (), 0), [0])
        self.assertEqual(certain_frames((), (), 0), ([], []))
        self.assertEqual(status((), (), ("depth", 0, 0, 10)), "entailed")
        self.assertEqual(status((), (), ("stack", 0, ())), "entailed")
        self.assertEqual(status((), (), ("depth", 0, 1, 10)), "excluded")
        self.assertEqual(status((), (("depth", 0, 1, 10),), ("depth", 0, 1, 10)), "inconsistent")

    def test_one_entry(self):
        trace = (ENTER,)
        self.assertEqual(possible_depths(trace, (), 0), [0])
        self.assertEqual(possible_depths(trace, (), 1), [0, 1])
        self.assertEqual(possible_ends(trace, (), 0), [1, None])
        self.assertEqual(possible_ends(trace, (("active", 0, 1),), 0), [None])
        self.assertEqual(possible_ends(trace, (("returned", 0, 1),), 0), [1])
        self.assertEqual(possible_callers(trace, (), 0), [None])
        self.assertEqual(certain_frames(trace, (), 0), ([], []))
        self.assertEqual(certain_frames(trace, (), 1), ([], []))
        self.assertEqual(certain_frames(trace, (("depth", 1, 1, 1),), 1), ([0], []))

    def test_the_caller_of_a_tail_call_is_below_the_frame_that_it_replaces(self):
        self.assertEqual(possible_callers((ENTER, TAIL), (), 1), [None])
        self.assertEqual(possible_callers((ENTER, ENTER, TAIL), (), 2), [None, 0])
        self.assertEqual(possible_callers((ENTER, ENTER, TAIL), (("depth", 2, 2, 2),), 2), [0])
        self.assertEqual(possible_callers((ENTER, ENTER, ENTER, TAIL), (), 3), [None, 0, 1])
        self.assertEqual(possible_callers((ENTER, ENTER, ENTER, TAIL), (("returned", 1, 3),), 3), [None, 0])
        self.assertEqual(possible_callers((ENTER, TAIL, TAIL, ENTER), (), 3), [None, 2])

    def test_ends_at_each_kind_of_event(self):
        self.assertEqual(possible_ends((ENTER, ("exit", 0)), (), 0), [2])
        self.assertEqual(possible_ends((ENTER, TAIL), (), 0), [2])
        self.assertEqual(possible_ends((ENTER, ENTER, ("catch", 0)), (), 1), [2, 3])
        self.assertEqual(possible_ends((ENTER, ENTER, ("catch", 0)), (), 0), [3, None])
        self.assertEqual(possible_ends((ENTER, MARK, MARK), (), 0), [1, 2, 3, None])

    def test_each_status_of_each_kind(self):
        for fact, facts in (
            (("depth", 4, 1, 1), (("active", 0, 4),)),
            (("active", 0, 4), (("depth", 4, 1, 3),)),
            (("returned", 0, 4), (("depth", 4, 0, 0),)),
            (("innermost", 3, 5), (("deeper", 5, 4, 1),)),
            (("returns", 4, 5, 0, 0), (("innermost", 3, 5),)),
            (("deeper", 5, 4, 1), (("innermost", 3, 5),)),
            (("stack", 5, (0, 3)), (("depth", 5, 2, 2),)),
        ):
            with self.subTest(fact):
                self.assertEqual(status(T, (), fact), "open")
                self.assertEqual(status(T, facts, fact), "entailed")
                self.assertEqual(status(T, facts + (("active", 2, 4),), fact), "inconsistent")
        self.assertEqual(status(T, (), ("depth", 4, 2, 10)), "excluded")
        self.assertEqual(status(T, (), ("active", 1, 4)), "excluded")
        self.assertEqual(status(T, (), ("returned", 1, 3)), "excluded")
        self.assertEqual(status(T, (), ("innermost", 0, 3)), "excluded")
        self.assertEqual(status(T, (), ("returns", 3, 4, 0, 0)), "excluded")
        self.assertEqual(status(T, (), ("deeper", 4, 3, 0)), "excluded")
        self.assertEqual(status(T, (), ("stack", 5, (0, 1))), "excluded")

    def test_ranges_that_take_in_every_depth(self):
        self.assertEqual(status(T, (), ("depth", 5, 0, 10)), "entailed")
        self.assertEqual(status(T, (), ("returns", 0, 5, 0, 10)), "entailed")
        self.assertEqual(status(T, (), ("deeper", 5, 0, -10)), "entailed")
        self.assertEqual(status(T, (), ("deeper", 5, 0, 10)), "excluded")
        self.assertEqual(status(T, (), ("deeper", 0, 5, 10)), "excluded")
        deep = (ENTER,) * 10
        self.assertEqual(status(deep, (), ("deeper", 10, 0, 10)), "open")
        self.assertEqual(status(deep, (), ("deeper", 0, 10, -9)), "open")
        self.assertEqual(status(deep, (), ("deeper", 0, 10, -10)), "entailed")
        self.assertEqual(status(deep, (), ("depth", 10, 10, 10)), "open")
        self.assertEqual(status(deep, (), ("depth", 10, 0, 9)), "open")
        self.assertEqual(status(deep, (), ("returns", 0, 10, 10, 10)), "open")
        self.assertEqual(status(deep, (), ("returns", 0, 10, 0, 9)), "open")

    def test_eight_facts_and_one_more(self):
        facts = (("active", 0, 4),) * 8
        self.assertEqual(status(T, facts, ("active", 0, 3)), "entailed")
        self.assertEqual(status(T, facts, ("returned", 0, 4)), "excluded")
        self.assertEqual(status(T, facts, ("active", 0, 5)), "open")


class QueryCase(unittest.TestCase):
    def compare(self, trace, pairs, facts, chosen):
        """Compare all queries with the completions that are left, status for the chosen facts."""
        left = satisfying(trace, pairs, facts)
        for fact in chosen:
            self.assertEqual(status(trace, facts, fact), told_status(trace, left, fact), (trace, facts, fact))
        for moment in range(len(trace) + 1):
            told = possible_depths(trace, facts, moment)
            self.assertEqual(told, told_depths(trace, left, moment), (trace, facts, moment))
            told = certain_frames(trace, facts, moment)
            self.assertEqual(told, told_certain(trace, left, moment), (trace, facts, moment))
        for frame in range(created(trace, len(trace))):
            self.assertEqual(possible_ends(trace, facts, frame), told_ends(left, frame), (trace, facts, frame))
            self.assertEqual(possible_callers(trace, facts, frame), told_callers(left, frame), (trace, facts, frame))
        return len(left)


class AllCompletions(QueryCase):
    def test_no_facts(self):
        for length in range(6):
            for trace in small_traces(length):
                self.compare(trace, all_completions(trace), (), [])

    def test_status_of_each_fact(self):
        for length in range(5):
            for trace in small_traces(length):
                pairs = all_completions(trace)
                for fact in all_facts(trace, (0, 1, 2, 10) if length < 4 else (0, 2)):
                    self.assertEqual(status(trace, (), fact), told_status(trace, pairs, fact), (trace, fact))

    def test_each_fact_alone(self):
        for length in range(4):
            for trace in small_traces(length):
                pairs = all_completions(trace)
                for fact in all_facts(trace, (0, 1, 2)):
                    self.compare(trace, pairs, (fact,), [fact])

    def test_each_fact_about_the_example(self):
        pairs = all_completions(T)
        facts = all_facts(T, (0, 1, 2, 3, 4, 10))
        chance = Random(61)
        for fact in facts:
            self.compare(T, pairs, (fact,), chance.sample(facts, 10))

    def test_two_facts(self):
        for trace in ((ENTER, ENTER), (ENTER, TAIL), (ENTER, ("exit", 0)), (ENTER, ("catch", 0))):
            pairs = all_completions(trace)
            facts = all_facts(trace, (0, 1))
            for fact, other in product(facts, repeat=2):
                left = satisfying(trace, pairs, (fact,))
                self.assertEqual(status(trace, (fact,), other), told_status(trace, left, other), (trace, fact, other))

    def test_facts_together(self):
        chance = Random(62)
        seen = {}
        for trace in some_traces(chance):
            pairs = all_completions(trace)
            facts = all_facts(trace, NUMBERS)
            for chosen in some_facts(chance, trace, pairs, facts):
                if len(trace) < 5 or chance.randrange(4) == 0:
                    near = [near_fact(chance, trace, chance.choice(pairs)[1])] if pairs and created(trace, len(trace)) else []
                    left = self.compare(trace, pairs, chosen, chance.sample(facts, 4) + near)
                    seen[min(left, 3)] = seen.get(min(left, 3), 0) + 1
        for many in range(4):
            self.assertGreater(seen[many], 100)

    def test_stacks_of_tail_calls(self):
        for trace in (TAILS, (ENTER, ENTER, ENTER, TAIL, TAIL, ENTER), (ENTER, ENTER, ("catch", 0), TAIL, ENTER, TAIL)):
            pairs = all_completions(trace)
            facts = all_facts(trace, ())
            for fact in facts:
                self.compare(trace, pairs, (fact,), [fact])
                self.assertEqual(status(trace, (), fact), told_status(trace, pairs, fact))

    def test_large_traces_with_few_completions(self):
        chance = Random(63)
        seen = {}
        for trace, facts, pairs in large_problems(64, 40):
            chosen = chance.sample(all_facts(trace, (0, 1, 3, 6, 10)), 25)
            if pairs:
                chosen += near_facts(chance, trace, chance.choice(pairs)[1], 25)
            self.compare(trace, pairs, facts, chosen)
            for fact in chosen:
                told = told_status(trace, pairs, fact)
                seen[told] = seen.get(told, 0) + 1
        self.assertEqual(set(seen), {"inconsistent", "entailed", "excluded", "open"})


class LargeTraces(unittest.TestCase):
    """Traces of 24 events and 10 frames with 8 facts that leave too many completions to go through them."""

    def problems(self, seed, many):
        """Traces and facts with a completion that satisfies them, and its meaning."""
        chance = Random(seed)
        while many:
            trace, completion = random_pair(chance, 24)
            if created(trace, 24) == 10:
                known = meaning(trace, completion)
                facts = ()
                while len(facts) < 8:
                    facts += tuple(fact for fact in [near_fact(chance, trace, known)] if true(trace, known, fact))
                many -= 1
                yield chance, trace, facts, known

    def test_a_completion_that_is_known(self):
        for chance, trace, facts, known in self.problems(65, 25):
            for moment in range(25):
                self.assertIn(len(known.stacks[moment]), possible_depths(trace, facts, moment))
                active, gone = certain_frames(trace, facts, moment)
                there = alive(trace, known, moment)
                self.assertLessEqual(set(active), set(there))
                self.assertEqual(set(gone) & set(there), set())
            for frame in range(10):
                self.assertIn(known.ends[frame], possible_ends(trace, facts, frame))
                self.assertIn(known.callers[frame], possible_callers(trace, facts, frame))
            for fact in chance.sample(all_facts(trace, (0, 1, 3, 10)), 40):
                told = ("entailed", "open") if true(trace, known, fact) else ("excluded", "open")
                self.assertIn(status(trace, facts, fact), told)
            for fact in facts:
                self.assertEqual(status(trace, facts, fact), "entailed")

    def test_all_stacks_that_can_be_reached(self):
        for chance, trace, facts, known in self.problems(73, 20):
            facts = facts[: chance.randrange(9)]
            if chance.randrange(3) == 0:
                facts += (chance.choice(all_facts(trace, (0, 1, 5, 10))),)
            facts = tuple(chance.sample(facts, len(facts)))[:8]
            self.assertEqual(most_returned(trace, facts) is not None, reachable(trace, facts))
            for moment in chance.sample(range(25), 3):
                self.compare_moment(trace, facts, moment)
            for frame in chance.sample(range(10), 3):
                self.compare_frame(trace, facts, frame)
            for fact in chance.sample(all_facts(trace, (0, 1, 3, 5, 10)), 6):
                self.compare_status(trace, facts, fact)

    def compare_moment(self, trace, facts, moment):
        told = [d for d in range(11) if reachable(trace, facts, [(moment, lambda stack: len(stack) == d)])]
        self.assertEqual(possible_depths(trace, facts, moment), told, (trace, facts, moment))
        frames = range(created(trace, moment))
        active = [i for i in frames if not reachable(trace, facts, [(moment, lambda stack: i not in stack)])]
        gone = [i for i in frames if not reachable(trace, facts, [(moment, lambda stack: i in stack)])]
        told = (active, gone) if reachable(trace, facts) else None
        self.assertEqual(certain_frames(trace, facts, moment), told, (trace, facts, moment))

    def compare_frame(self, trace, facts, frame):
        birth = [at for at, event in enumerate(trace) if event[0] in ("enter", "tail")][frame]
        told = []
        for moment in range(birth + 1, 25):
            wanted = [(moment, lambda stack: frame not in stack)]
            if moment > birth + 1:
                wanted.append((moment - 1, lambda stack: frame in stack))
            told += [moment] if reachable(trace, facts, wanted) else []
        told += [None] if reachable(trace, facts, [(24, lambda stack: frame in stack)]) else []
        self.assertEqual(possible_ends(trace, facts, frame), told, (trace, facts, frame))
        at = -2 if trace[birth][0] == "tail" else -1
        told = [None] if reachable(trace, facts, [(birth, lambda stack: len(stack) < -at)]) else []
        for i in range(frame):
            told += [i] if reachable(trace, facts, [(birth, lambda stack: len(stack) >= -at and stack[at] == i)]) else []
        self.assertEqual(possible_callers(trace, facts, frame), told, (trace, facts, frame))

    def compare_status(self, trace, facts, fact):
        if fact[0] == "deeper":
            without = reachable(trace, facts + (("deeper", fact[2], fact[1], 1 - fact[3]),))
        elif fact[0] == "returns":
            others = [("returns", fact[1], fact[2], d, d) for d in range(11) if not fact[3] <= d <= fact[4]]
            without = any(reachable(trace, facts + (other,)) for other in others)
        else:
            moment = fact[1] if fact[0] in ("depth", "stack") else fact[2]
            without = reachable(trace, facts, [(moment, lambda stack: not shows(stack, fact))])
        words = {(True, True): "open", (True, False): "entailed", (False, True): "excluded"}
        told = words.get((reachable(trace, facts + (fact,)), without), "inconsistent")
        self.assertEqual(status(trace, facts, fact), told, (trace, facts, fact))

    def test_queries_agree_with_each_other(self):
        for chance, trace, facts, known in self.problems(66, 12):
            facts = facts[: chance.randrange(9)]
            for moment in chance.sample(range(25), 6):
                told = [depth for depth in range(11) if self.allowed(trace, facts, ("depth", moment, depth, depth))]
                self.assertEqual(possible_depths(trace, facts, moment), told)
                judged = [status(trace, facts, ("active", frame, moment)) for frame in range(created(trace, moment))]
                active = [frame for frame, word in enumerate(judged) if word == "entailed"]
                gone = [frame for frame, word in enumerate(judged) if word == "excluded"]
                self.assertEqual(certain_frames(trace, facts, moment), (active, gone))
            self.compare_frames(trace, facts)

    def allowed(self, trace, facts, fact):
        return status(trace, facts, fact) in ("entailed", "open")

    def compare_frames(self, trace, facts):
        births = [at for at, event in enumerate(trace) if event[0] in ("enter", "tail")]
        for frame, birth in enumerate(births):
            ends = possible_ends(trace, facts, frame)
            self.assertEqual(None in ends, self.allowed(trace, facts, ("active", frame, 24)))
            self.assertEqual(birth + 1 in ends, self.allowed(trace, facts, ("returned", frame, birth + 1)))
            found = possible_callers(trace, facts, frame)
            if trace[birth][0] == "enter":
                told = [i for i in range(frame) if self.allowed(trace, facts, ("innermost", i, birth))]
                none = [None] if self.allowed(trace, facts, ("depth", birth, 0, 0)) else []
                self.assertEqual(found, none + told)
            else:
                self.assertEqual(None in found, self.allowed(trace, facts, ("depth", birth, 1, 1)))

    def test_any_facts(self):
        chance = Random(67)
        inconsistent = 0
        for _ in range(30):
            trace = large_trace(chance)
            choices = all_facts(trace, (0, 1, 5, 10))
            facts = tuple(chance.choice(choices) for _ in range(8))
            most = most_returned(trace, facts)
            inconsistent += most is None
            for fact in chance.sample(choices, 10):
                self.assertEqual(status(trace, facts, fact) == "inconsistent", most is None)
            for moment in range(25):
                self.assertEqual(possible_depths(trace, facts, moment) == [], most is None)
                self.assertEqual(certain_frames(trace, facts, moment) is None, most is None)
            for frame in range(10):
                self.assertEqual(possible_ends(trace, facts, frame) == [], most is None)
                self.assertEqual(possible_callers(trace, facts, frame) == [], most is None)
        self.assertGreater(inconsistent, 10)

    def test_entries_without_facts(self):
        trace = (ENTER,) * 10 + (MARK,) * 14
        for frame in range(10):
            self.assertEqual(possible_ends(trace, (), frame), list(range(frame + 1, 25)) + [None])
            self.assertEqual(possible_callers(trace, (), frame), [None] + list(range(frame)))
        for moment in range(25):
            self.assertEqual(possible_depths(trace, (), moment), list(range(min(moment, 10) + 1)))
            self.assertEqual(certain_frames(trace, (), moment), ([], []))

    def test_exits_that_leave_one_completion(self):
        trace = (ENTER,) * 10 + tuple(("exit", frame) for frame in reversed(range(10))) + (MARK,) * 4
        for frame in range(10):
            self.assertEqual(possible_ends(trace, (), frame), [20 - frame])
            self.assertEqual(possible_callers(trace, (), frame), [frame - 1 if frame else None])
        for moment in range(25):
            depth = max(0, min(moment, 20 - moment))
            self.assertEqual(possible_depths(trace, (), moment), [depth])
            frames = list(range(min(moment, 10)))
            self.assertEqual(certain_frames(trace, (), moment), (frames[:depth], frames[depth:]))


class NoCompletion(unittest.TestCase):
    def check(self, trace, facts, fact):
        self.assertEqual(status(trace, facts, fact), "inconsistent")
        for moment in range(len(trace) + 1):
            self.assertEqual(possible_depths(trace, facts, moment), [])
            self.assertIsNone(certain_frames(trace, facts, moment))
        for frame in range(created(trace, len(trace))):
            self.assertEqual(possible_ends(trace, facts, frame), [])
            self.assertEqual(possible_callers(trace, facts, frame), [])

    def test_traces_without_a_valid_completion(self):
        for trace in WITHOUT_COMPLETION + LONG_WITHOUT_COMPLETION:
            self.check(trace, (), ("depth", 0, 0, 10))
            self.check(trace, (("depth", 1, 0, 10),) * 8, ("returned", 0, 1))

    def test_inconsistent_facts(self):
        self.check(T, (("active", 2, 4),), ("active", 2, 4))
        self.check(T, (("active", 0, 4), ("returned", 0, 4)), ("depth", 0, 0, 0))
        self.check(T, (("deeper", 4, 5, 1), ("deeper", 5, 4, 0)), ("stack", 0, ()))

    def test_long_traces_without_a_completion_and_any_facts(self):
        chance = Random(68)
        for trace in LONG_WITHOUT_COMPLETION:
            choices = all_facts(trace, (0, 5, 10))
            for _ in range(3):
                self.check(trace, tuple(chance.choice(choices) for _ in range(8)), chance.choice(choices))


class Properties(unittest.TestCase):
    def test_one_fact_more(self):
        chance = Random(69)
        seen = {}
        for _ in range(150):
            trace, completion = random_pair(chance, chance.randrange(3, 25))
            choices = all_facts(trace, (0, 1, 2, 10))
            fact = chance.choice(choices)
            facts = ()
            before = status(trace, facts, fact)
            while len(facts) < 8:
                facts += (chance.choice(choices),)
                after = status(trace, facts, fact)
                seen[before, after] = seen.get((before, after), 0) + 1
                before = after
        # What is entailed or excluded stays so as long as the facts are consistent.
        words = ("open", "entailed", "excluded")
        told = {(word, "inconsistent") for word in words + ("inconsistent",)}
        told |= {("open", word) for word in words} | {(word, word) for word in words}
        self.assertEqual(set(seen), told)

    def test_one_fact_more_leaves_no_new_answers(self):
        chance = Random(70)
        for _ in range(40):
            trace, completion = random_pair(chance, 12)
            if created(trace, 12) == 0:
                continue
            facts = near_facts(chance, trace, meaning(trace, completion), 8)
            frame = chance.randrange(created(trace, 12))
            for function, at in ((possible_depths, 12), (possible_ends, frame), (possible_callers, frame)):
                answers = [set(function(trace, facts[:many], at)) for many in range(9)]
                for wider, narrower in zip(answers, answers[1:]):
                    self.assertLessEqual(narrower, wider)

    def test_the_order_of_facts_does_not_matter(self):
        chance = Random(71)
        for _ in range(12):
            trace, completion = random_pair(chance, 6)
            if created(trace, 6) == 0:
                continue
            facts = near_facts(chance, trace, meaning(trace, completion), 3)
            fact = near_fact(chance, trace, meaning(trace, completion))
            calls = [(status, fact)] + [(function, 6) for function in OF_MOMENTS] + [(function, 0) for function in OF_FRAMES]
            for function, last in calls:
                expected = function(trace, facts, last)
                for other in permutations(facts):
                    self.assertEqual(function(trace, other, last), expected)

    def test_renamed_functions_change_nothing(self):
        chance = Random(72)
        for _ in range(30):
            trace, completion = random_pair(chance, chance.randrange(2, 25))
            other = renamed(trace)
            if created(trace, len(trace)) == 0:
                continue
            facts = near_facts(chance, trace, meaning(trace, completion), 3)
            fact = near_fact(chance, trace, meaning(trace, completion))
            self.assertEqual(status(other, facts, fact), status(trace, facts, fact))
            for function in OF_MOMENTS:
                for moment in range(len(trace) + 1):
                    self.assertEqual(function(other, facts, moment), function(trace, facts, moment))
            for function in OF_FRAMES:
                for frame in range(created(trace, len(trace))):
                    self.assertEqual(function(other, facts, frame), function(trace, facts, frame))


class Errors(unittest.TestCase):
    def test_invalid_trace_comes_first(self):
        for trace in NOT_TRACES:
            for facts in ((), (ANY_DEPTH,), None, [], (ANY_DEPTH,) * 9):
                for last in (0, ANY_DEPTH, None, True, -1, LARGE, []):
                    for function in ALL:
                        with self.assertRaises(InvalidTrace):
                            function(trace, facts, last)

    def test_invalid_facts_come_second(self):
        for facts in NOT_FACTS:
            for last in (0, ANY_DEPTH, None, True, -1, LARGE, []):
                for function in ALL:
                    with self.subTest(function.__name__, facts=repr(facts)[:60]), self.assertRaises(InvalidFacts):
                        function(T, facts, last)

    def test_invalid_fact(self):
        for facts in ((), (ANY_DEPTH,) * 8, (("active", 2, 4),)):
            for fact in NOT_A_FACT:
                with self.subTest(repr(fact)[:60]), self.assertRaises(InvalidFact):
                    status(T, facts, fact)

    def test_invalid_moment(self):
        wrong = [value for value in ODD_VALUES if value not in (0, 1) or isinstance(value, bool)]
        for facts in ((), (ANY_DEPTH,) * 8, (("active", 2, 4),)):
            for moment in wrong + [-1, 6, 7, 24, 25, LARGE, -LARGE, "4", (4,), [4], ANY_DEPTH]:
                for function in OF_MOMENTS:
                    with self.subTest(function.__name__, moment=repr(moment)[:60]), self.assertRaises(InvalidMoment):
                        function(T, facts, moment)

    def test_invalid_frame(self):
        wrong = [value for value in ODD_VALUES if value not in (0, 1) or isinstance(value, bool)]
        for facts in ((), (ANY_DEPTH,) * 8, (("active", 2, 4),)):
            for frame in wrong + [-1, 4, 5, 10, LARGE, -LARGE, "0", (0,), [0], "main"]:
                for function in OF_FRAMES:
                    with self.subTest(function.__name__, frame=repr(frame)[:60]), self.assertRaises(InvalidFrame):
                        function(T, facts, frame)

    def test_traces_without_frames(self):
        for trace in ((), (MARK,), (MARK,) * 24):
            for frame in (0, 1, -1, None):
                for function in OF_FRAMES:
                    with self.assertRaises(InvalidFrame):
                        function(trace, (), frame)

    def test_wrong_last_arguments_of_a_trace_without_a_valid_completion(self):
        trace = (ENTER, ("exit", 0), ("exit", 0))
        with self.assertRaises(InvalidFact):
            status(trace, (), ("active", 1, 2))
        for function in OF_MOMENTS:
            with self.assertRaises(InvalidMoment):
                function(trace, (), 4)
        for function in OF_FRAMES:
            with self.assertRaises(InvalidFrame):
                function(trace, (), 1)

    def test_each_moment_and_frame_is_accepted(self):
        for moment in range(6):
            self.assertIs(type(possible_depths(T, (), moment)), list)
            self.assertIs(type(certain_frames(T, (), moment)), tuple)
        for frame in range(4):
            self.assertIs(type(possible_ends(T, (), frame)), list)
            self.assertIs(type(possible_callers(T, (), frame)), list)


class GeneralRules(unittest.TestCase):
    def calls(self, trace, facts):
        yield status, (trace, facts, ("active", 0, 4))
        for function in ALL[1:]:
            yield function, (trace, facts, 3)

    def test_equal_arguments_give_equal_new_results(self):
        facts = (("active", 0, 4), ("depth", 5, 0, 2))
        same = tuple(tuple(list(fact)) for fact in facts)
        for (function, first), (_, second) in zip(self.calls(T, facts), self.calls(tuple(list(T)), same)):
            result = function(*first)
            self.assertEqual(function(*second), result)
            self.assertEqual(function(*first), result)

    def test_returned_lists_are_new(self):
        for function in (possible_depths, possible_ends, possible_callers):
            kept = function(T, (), 3)
            function(T, (), 3).clear()
            self.assertEqual(function(T, (), 3), kept)
        first = certain_frames(T, (), 4)
        for part in certain_frames(T, (), 4):
            self.assertIs(type(part), list)
            part.clear()
        self.assertEqual(certain_frames(T, (), 4), first)
        for function in (possible_depths, possible_ends, possible_callers):
            empty = function(T, (("active", 2, 4),), 3)
            empty.append(0)
            self.assertEqual(function(T, (("active", 2, 4),), 3), [])

    def test_arguments_are_not_changed(self):
        for value in NOT_FACTS + NOT_A_FACT:
            kept = copy.deepcopy(value)
            for function, error in ((status, InvalidFact), (possible_depths, InvalidMoment), (possible_ends, InvalidFrame)):
                with self.assertRaises(InvalidTrace):
                    function(list(T), value, value)
                try:
                    function(T, (), value)
                except error:
                    pass
            self.assertEqual(value, kept)

    def test_kinds_of_values(self):
        for frame in range(4):
            for value in possible_ends(T, (), frame) + possible_callers(T, (), frame):
                self.assertIn(type(value), (int, type(None)))
        for moment in range(6):
            self.assertEqual({type(value) for value in possible_depths(T, (), moment)}, {int})


class Work(unittest.TestCase):
    """How much work status does, told by the number of calls that it makes."""

    TRACE = (ENTER, ENTER, ENTER, ("exit", 1), ENTER, TAIL)
    FACTS = (("deeper", 5, 4, 1), ("depth", 6, 0, 3), ("returned", 3, 6))

    def test_each_kind_of_fact(self):
        # With each query stands two thirds of the calls that an earlier version made for it.
        for fact, told, most in (
            (("stack", 6, (0,)), "open", 337),
            (("stack", 6, (0, 4)), "open", 342),
            (("stack", 3, (0, 1, 2)), "excluded", 242),
            (("innermost", 4, 6), "open", 278),
            (("depth", 6, 1, 2), "open", 278),
            (("active", 0, 6), "open", 305),
            (("returned", 0, 6), "open", 305),
            (("returns", 2, 6, 1, 3), "open", 297),
            (("deeper", 6, 2, 0), "open", 272),
        ):
            self.assertEqual(status(self.TRACE, self.FACTS, fact), told)
            self.assertLessEqual(work(status, self.TRACE, self.FACTS, fact), most, fact)

    def test_solving_and_derivations(self):
        self.assertLessEqual(work(most_returned, self.TRACE, self.FACTS), 270)
        self.assertLessEqual(work(fewest_returned, self.TRACE, self.FACTS), 875)
        self.assertLessEqual(work(derivation, self.TRACE, self.FACTS), 171)


if __name__ == "__main__":
    unittest.main()
