import copy
import unittest
from itertools import product
from random import Random

from reference import (
    ANY_DEPTH,
    NOT_FACTS,
    NOT_TRACES,
    WITHOUT_COMPLETION,
    T,
    all_completions,
    all_facts,
    created,
    index_tuples,
    large_problems,
    large_trace,
    meaning,
    near_facts,
    random_pair,
    renamed,
    small_traces,
    some_facts,
    some_traces,
    subsets_consistent,
    told_conflicts,
    told_dropped,
)

from lostexits.conflicts import fewest_dropped, minimal_conflicts
from lostexits.errors import InvalidFacts, InvalidTrace
from lostexits.solving import fewest_returned, most_returned

ENTER = ("enter", "f")
TAIL = ("tail", "g")
MARK = ("mark",)
BOTH = (minimal_conflicts, fewest_dropped)
NEVER = ("active", 2, 4)
GIVEN = (NEVER, ("depth", 4, 0, 0), ("active", 0, 4))
LONG_WITHOUT_COMPLETION = (ENTER,) * 10 + (("exit", 0), ("exit", 9)) + (MARK,) * 12


class Examples(unittest.TestCase):
    def test_minimal_conflicts(self):
        self.assertEqual(minimal_conflicts(T, GIVEN), [(0,), (1, 2)])

    def test_fewest_dropped(self):
        self.assertEqual(fewest_dropped(T, GIVEN), (0, 1))


class WorkedByHand(unittest.TestCase):
    def check(self, trace, facts, conflicts, dropped):
        self.assertEqual(minimal_conflicts(trace, facts), conflicts)
        self.assertEqual(fewest_dropped(trace, facts), dropped)

    def test_no_facts(self):
        for trace in ((), T, (MARK,) * 24, (ENTER,) * 10):
            self.check(trace, (), [], ())

    def test_consistent_facts(self):
        self.check(T, (("active", 0, 4),), [], ())
        self.check(T, (("active", 0, 4),) * 8, [], ())
        self.check(T, (("active", 0, 4), ("depth", 5, 2, 2), ("stack", 5, (0, 3))), [], ())

    def test_one_fact_that_is_not_consistent_alone(self):
        self.check(T, (NEVER,), [(0,)], (0,))
        self.check(T, (ANY_DEPTH, NEVER, ANY_DEPTH), [(1,)], (1,))

    def test_equal_facts_twice(self):
        self.check(T, (NEVER, NEVER), [(0,), (1,)], (0, 1))
        yes, no = ("active", 0, 4), ("returned", 0, 4)
        self.check(T, (yes, yes, no), [(0, 2), (1, 2)], (2,))
        self.check(T, (no, yes, no), [(0, 1), (1, 2)], (1,))
        self.check(T, (yes, yes, no, no), [(0, 2), (0, 3), (1, 2), (1, 3)], (0, 1))
        self.check(T, (no, no, no, yes), [(0, 3), (1, 3), (2, 3)], (3,))

    def test_the_first_of_several_shortest(self):
        self.check(T, (("active", 0, 4), ("returned", 0, 4)), [(0, 1)], (0,))
        facts = (("depth", 4, 0, 0), ("depth", 4, 1, 1), ("active", 3, 5), ("returned", 3, 5))
        self.check(T, facts, [(0, 1), (2, 3)], (0, 2))

    def test_three_facts_of_which_any_two_are_consistent(self):
        trace = (ENTER, ENTER, MARK)
        facts = (("returns", 2, 3, 1, 10), ("depth", 2, 0, 1), ("active", 0, 3))
        self.check(trace, facts, [(0, 1, 2)], (0,))

    def test_a_ring_of_facts(self):
        # Each fact alone, and any number of them but all, are consistent.
        trace = (ENTER,) * 4 + (MARK,) * 8
        facts = tuple(("deeper", 4 + k, 5 + k, 0) for k in range(7)) + (("deeper", 11, 4, 1),)
        self.check(trace, facts, [(7,)], (7,))
        trace = (ENTER, MARK) * 8
        moments = [1, 3, 5, 7, 9, 11, 13, 15]
        facts = tuple(("deeper", late, early, 0) for early, late in zip(moments, moments[1:])) + (("deeper", 1, 15, 1),)
        self.check(trace, facts, [(0, 1, 2, 3, 4, 5, 6, 7)], (0,))

    def test_eight_facts_of_which_none_is_consistent(self):
        self.check(T, (NEVER,) * 8, [(index,) for index in range(8)], tuple(range(8)))

    def test_ascending_order_is_the_order_of_tuples(self):
        trace = (ENTER, ENTER, MARK)
        low, high = ("depth", 2, 0, 0), ("depth", 2, 2, 2)
        three = (("returns", 2, 3, 1, 10), ("depth", 2, 0, 1), ("active", 0, 3))
        found = minimal_conflicts(trace, three + (low, high))
        self.assertEqual(found, sorted(found))
        self.assertEqual({len(conflict) for conflict in found}, {2, 3})
        self.assertEqual(found[0], (0, 1, 2))

    def test_traces_without_a_valid_completion(self):
        for trace in WITHOUT_COMPLETION + (LONG_WITHOUT_COMPLETION,):
            self.check(trace, (), [()], None)
            self.check(trace, (("depth", 0, 0, 10),), [()], None)
            self.check(trace, (("depth", 0, 1, 10), ("depth", 0, 0, 10)) * 4, [()], None)


class ConflictCase(unittest.TestCase):
    def compare(self, trace, facts, consistent):
        self.assertEqual(minimal_conflicts(trace, facts), told_conflicts(len(facts), consistent), (trace, facts))
        self.assertEqual(fewest_dropped(trace, facts), told_dropped(len(facts), consistent), (trace, facts))


class AllSubsets(ConflictCase):
    def compare_with_completions(self, trace, pairs, facts):
        self.compare(trace, facts, subsets_consistent(trace, pairs, facts))
        return len(minimal_conflicts(trace, facts))

    def test_no_facts(self):
        for length in range(6):
            for trace in small_traces(length):
                self.compare_with_completions(trace, all_completions(trace), ())

    def test_each_fact_alone_and_twice(self):
        for length in range(4):
            for trace in small_traces(length):
                pairs = all_completions(trace)
                for fact in all_facts(trace, (0, 1, 2)):
                    self.compare_with_completions(trace, pairs, (fact,))
                    self.compare_with_completions(trace, pairs, (fact, fact))

    def test_two_facts(self):
        for trace in ((ENTER, ENTER), (ENTER, TAIL), (ENTER, ("catch", 0))):
            pairs = all_completions(trace)
            for facts in product(all_facts(trace, (0, 1)), repeat=2):
                self.compare_with_completions(trace, pairs, facts)

    def test_facts_together(self):
        chance = Random(91)
        for trace in some_traces(chance):
            if len(trace) < 4 or chance.randrange(4) == 0:
                pairs = all_completions(trace)
                facts = all_facts(trace, (0, 1, 2, 3, 10))
                for chosen in some_facts(chance, trace, pairs, facts):
                    self.compare_with_completions(trace, pairs, chosen)

    def test_eight_facts(self):
        chance = Random(92)
        most = 0
        for _ in range(120):
            trace, completion = random_pair(chance, 6)
            pairs = all_completions(trace)
            choices = all_facts(trace, (0, 1, 2, 3))
            facts = tuple(chance.choice(choices) for _ in range(8))
            most = max(most, self.compare_with_completions(trace, pairs, facts))
            if created(trace, 6):
                # Facts that hold in two different completions, mixed.
                facts = sum((near_facts(chance, trace, chance.choice(pairs)[1], 4) for _ in range(2)), ())
                facts = tuple(chance.sample(facts, 8))
                most = max(most, self.compare_with_completions(trace, pairs, facts))
        self.assertGreater(most, 8)

    def test_facts_of_three_completions(self):
        # These give conflicts between several facts.
        chance = Random(93)
        lengths = set()
        for _ in range(150):
            trace, completion = random_pair(chance, 6)
            if created(trace, 6) < 3:
                continue
            pairs = all_completions(trace)
            facts = sum((near_facts(chance, trace, chance.choice(pairs)[1], 2) for _ in range(4)), ())
            self.compare_with_completions(trace, pairs, facts)
            lengths |= {len(conflict) for conflict in minimal_conflicts(trace, facts)}
        self.assertGreaterEqual(lengths, {1, 2, 3})


class LargeTraces(ConflictCase):
    """Traces of 24 events and 10 frames with 8 facts."""

    def subsets_by_solving(self, trace, facts):
        return {
            chosen: most_returned(trace, tuple(facts[index] for index in chosen)) is not None
            for chosen in index_tuples(len(facts))
        }

    def test_any_facts(self):
        chance = Random(94)
        for _ in range(12):
            trace = large_trace(chance)
            choices = all_facts(trace, (0, 1, 5, 10))
            facts = tuple(chance.choice(choices) for _ in range(8))
            self.compare(trace, facts, self.subsets_by_solving(trace, facts))

    def test_facts_of_two_completions(self):
        chance = Random(95)
        many = 0
        for _ in range(12):
            trace, completion = random_pair(chance, 24)
            if created(trace, 24) < 5:
                continue
            most = meaning(trace, most_returned(trace, ()))
            fewest = meaning(trace, fewest_returned(trace, ()))
            facts = near_facts(chance, trace, fewest, 4) + near_facts(chance, trace, most, 4)
            self.compare(trace, facts, self.subsets_by_solving(trace, facts))
            many += len(minimal_conflicts(trace, facts))
        self.assertGreater(many, 12)

    def test_few_completions(self):
        for trace, facts, pairs in large_problems(96, 15):
            self.assertEqual(minimal_conflicts(trace, facts) == [], len(pairs) > 0)
            self.assertEqual(fewest_dropped(trace, facts) == (), len(pairs) > 0)

    def test_many_conflicts(self):
        trace = (ENTER,) * 10 + (MARK,) * 14
        facts = tuple(("depth", 24, depth, depth) for depth in range(8))
        pairs = [(low, high) for low in range(8) for high in range(low + 1, 8)]
        self.assertEqual(minimal_conflicts(trace, facts), pairs)
        self.assertEqual(fewest_dropped(trace, facts), (0, 1, 2, 3, 4, 5, 6))

    def test_any_four_of_eight_facts(self):
        # Three returns are left at most, and each fact asks for one; so each four facts are a conflict.
        trace = (ENTER,) * 3 + (MARK,) * 8
        facts = tuple(("returns", at, at + 1, 1, 10) for at in range(3, 11))
        found = minimal_conflicts(trace, facts)
        self.assertEqual(found, [chosen for chosen in index_tuples(8) if len(chosen) == 4])
        self.assertEqual(fewest_dropped(trace, facts), (0, 1, 2, 3, 4))


class Properties(unittest.TestCase):
    def test_what_is_left_is_consistent(self):
        chance = Random(97)
        for _ in range(60):
            trace, completion = random_pair(chance, chance.randrange(2, 25))
            choices = all_facts(trace, (0, 1, 2, 10))
            facts = tuple(chance.choice(choices) for _ in range(chance.randrange(9)))
            dropped = fewest_dropped(trace, facts)
            kept = tuple(fact for index, fact in enumerate(facts) if index not in dropped)
            self.assertIsNotNone(most_returned(trace, kept))
            for conflict in minimal_conflicts(trace, facts):
                self.assertIsNone(most_returned(trace, tuple(facts[index] for index in conflict)))
                self.assertNotEqual(set(conflict) & set(dropped), set())

    def test_renamed_functions_change_nothing(self):
        chance = Random(98)
        for _ in range(30):
            trace, completion = random_pair(chance, chance.randrange(2, 25))
            choices = all_facts(trace, (0, 1, 2, 10))
            facts = tuple(chance.choice(choices) for _ in range(6))
            for function in BOTH:
                self.assertEqual(function(renamed(trace), facts), function(trace, facts))


class Errors(unittest.TestCase):
    def test_invalid_trace_comes_first(self):
        for trace in NOT_TRACES:
            for facts in ((), (ANY_DEPTH,), None, [], (ANY_DEPTH,) * 9):
                for function in BOTH:
                    with self.assertRaises(InvalidTrace):
                        function(trace, facts)

    def test_invalid_facts(self):
        for facts in NOT_FACTS:
            for function in BOTH:
                with self.subTest(function.__name__, facts=repr(facts)[:60]), self.assertRaises(InvalidFacts):
                    function(T, facts)

    def test_invalid_facts_about_a_trace_without_a_valid_completion(self):
        for function in BOTH:
            with self.assertRaises(InvalidFacts):
                function((ENTER, ("exit", 0), ("exit", 0)), (("depth", 4, 0, 0),))


class GeneralRules(unittest.TestCase):
    def test_equal_arguments_give_equal_results(self):
        same = tuple(tuple(list(fact)) for fact in GIVEN)
        for function in BOTH:
            first = function(T, GIVEN)
            self.assertEqual(function(tuple(list(T)), same), first)
            self.assertEqual(function(T, GIVEN), first)

    def test_returned_lists_are_new(self):
        for facts in ((), GIVEN):
            kept = minimal_conflicts(T, facts)
            self.assertIs(type(kept), list)
            minimal_conflicts(T, facts).append(())
            self.assertEqual(minimal_conflicts(T, facts), kept)

    def test_kinds_of_values(self):
        for conflict in minimal_conflicts(T, GIVEN) + [fewest_dropped(T, GIVEN), fewest_dropped(T, ())]:
            self.assertIs(type(conflict), tuple)
            self.assertEqual([type(index) for index in conflict], [int] * len(conflict))

    def test_arguments_are_not_changed(self):
        for value in NOT_FACTS:
            kept = copy.deepcopy(value)
            for function in BOTH:
                with self.assertRaises(InvalidFacts):
                    function(T, value)
            self.assertEqual(value, kept)


if __name__ == "__main__":
    unittest.main()
