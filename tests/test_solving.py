import unittest
from itertools import permutations, product
from random import Random

from reference import (
    ANY_DEPTH,
    NOT_FACTS,
    NOT_TRACES,
    ODD_VALUES,
    WITHOUT_COMPLETION,
    T,
    all_completions,
    all_facts,
    created,
    extreme,
    large_problems,
    large_trace,
    meaning,
    near_facts,
    random_pair,
    random_pairs,
    satisfying,
    small_traces,
    some_facts,
    some_traces,
    true,
)

from lostexits.completions import is_completion, totals
from lostexits.errors import InvalidCompletion, InvalidFacts, InvalidTrace
from lostexits.facts import holds
from lostexits.solving import fewest_returned, merge_fewest, merge_most, most_returned

ENTER = ("enter", "f")
TAIL = ("tail", "g")
MARK = ("mark",)
FULL = (0, 0, 0, 1, 0, 2)
EARLY = (0, 1, 0, 1, 0, 0)
NUMBERS = (0, 1, 2, 3, 10)
SOLVING = (most_returned, fewest_returned)
MERGING = (merge_most, merge_fewest)
NOT_COMPLETIONS = ODD_VALUES + [list(FULL), (0,) * 6, FULL[:5], FULL + (0,), (False,) + FULL[1:]]


class Examples(unittest.TestCase):
    def test_most_returned(self):
        self.assertEqual(most_returned(T, ()), (0, 1, 0, 1, 0, 1))

    def test_fewest_returned(self):
        self.assertEqual(fewest_returned(T, (("returned", 0, 4),)), (0, 0, 0, 1, 1, 0))

    def test_merge_most(self):
        self.assertEqual(merge_most(T, EARLY, FULL), (0, 1, 0, 1, 0, 1))

    def test_merge_fewest(self):
        self.assertEqual(merge_fewest(T, EARLY, FULL), (0, 0, 0, 1, 0, 1))


class WorkedByHand(unittest.TestCase):
    def check(self, trace, facts, most, fewest):
        self.assertEqual(most_returned(trace, facts), most)
        self.assertEqual(fewest_returned(trace, facts), fewest)

    def test_empty_trace(self):
        self.check((), (), (0,), (0,))
        self.check((), (("depth", 0, 0, 0), ("stack", 0, ())), (0,), (0,))
        self.check((), (("depth", 0, 1, 2),), None, None)

    def test_marks(self):
        self.check((MARK, MARK), (), (0, 0, 0), (0, 0, 0))
        self.check((MARK, MARK), (("deeper", 2, 0, 1),), None, None)

    def test_entries(self):
        self.check((ENTER, ENTER), (), (0, 1, 1), (0, 0, 0))
        self.check((ENTER, ENTER), (("depth", 2, 1, 1),), (0, 1, 0), (0, 0, 1))
        self.check((ENTER, ENTER), (("depth", 2, 3, 3),), None, None)

    def test_the_smallest_totals_may_come_from_different_completions(self):
        # Frame 0 returns at moment 1, or at moment 2 together with frame 1.
        self.check((ENTER, ENTER), (("returned", 0, 2),), (0, 1, 1), None)
        self.check((ENTER, ENTER), (("stack", 2, ()),), (0, 1, 1), (0, 0, 2))
        self.check((ENTER, ENTER), (("returned", 0, 2), ("active", 1, 2)), (0, 1, 0), (0, 1, 0))
        self.check((ENTER, ENTER, ENTER), (("returned", 0, 3),), (0, 1, 1, 1), None)
        self.check((ENTER, ENTER, ENTER), (("stack", 3, (2,)),), (0, 1, 1, 0), (0, 0, 2, 0))

    def test_tail_calls(self):
        self.check((ENTER, TAIL), (), (0, 0, 1), (0, 0, 0))
        # Frame 0 returns unseen at moment 1, by the tail call, or unseen at moment 3.
        self.check((ENTER, ENTER, TAIL), (("returned", 0, 3),), (0, 1, 0, 1), None)
        self.check((ENTER, ENTER, TAIL), (("returned", 0, 3), ("active", 2, 3)), (0, 1, 0, 0), (0, 0, 1, 0))
        self.check((ENTER, TAIL), (("active", 0, 2),), None, None)
        self.check((ENTER, ENTER, TAIL), (("active", 0, 3),), (0, 0, 0, 1), (0, 0, 0, 0))

    def test_each_kind_of_fact(self):
        self.check(T, (), (0, 1, 0, 1, 0, 1), (0, 0, 0, 1, 0, 0))
        self.check(T, (("depth", 5, 2, 2),), (0, 0, 0, 1, 0, 0), (0, 0, 0, 1, 0, 0))
        self.check(T, (("active", 0, 4),), (0, 0, 0, 1, 0, 2), (0, 0, 0, 1, 0, 0))
        self.check(T, (("returned", 0, 1),), (0, 1, 0, 1, 0, 1), (0, 1, 0, 1, 0, 0))
        self.check(T, (("innermost", 3, 5),), (0, 1, 0, 1, 0, 0), (0, 0, 0, 1, 0, 0))
        self.check(T, (("returns", 4, 5, 2, 2),), (0, 0, 0, 1, 0, 2), (0, 0, 0, 1, 0, 2))
        self.check(T, (("deeper", 5, 4, 1),), (0, 1, 0, 1, 0, 0), (0, 0, 0, 1, 0, 0))
        self.check(T, (("stack", 5, (0,)),), (0, 0, 0, 1, 0, 1), (0, 0, 0, 1, 0, 1))

    def test_contradictory_facts(self):
        self.check(T, (("active", 0, 4), ("returned", 0, 4)), None, None)
        self.check(T, (("active", 2, 4),), None, None)
        self.check(T, (("depth", 4, 0, 0), ("depth", 4, 1, 1)), None, None)
        self.check(T, (("depth", 4, 2, 10),), None, None)
        self.check(T, (("stack", 5, (0,)), ("stack", 5, (3,))), None, None)
        self.check(T, (("returned", 0, 1), ("active", 0, 5)), None, None)
        self.check(T, (("deeper", 4, 5, 1), ("deeper", 5, 4, 0)), None, None)

    def test_traces_without_a_valid_completion(self):
        for trace in WITHOUT_COMPLETION:
            self.check(trace, (), None, None)
            self.check(trace, (("depth", 0, 0, 10),), None, None)


class AllCompletions(unittest.TestCase):
    def compare(self, trace, pairs, facts):
        left = satisfying(trace, pairs, facts)
        most = most_returned(trace, facts)
        self.assertEqual(most, extreme(left, max), (trace, facts))
        self.assertEqual(most is None, not left, (trace, facts))
        fewest = fewest_returned(trace, facts)
        self.assertEqual(fewest, extreme(left, min), (trace, facts))
        if not any(fact[0] in ("returned", "stack") for fact in facts):
            self.assertEqual(fewest is None, not left, (trace, facts))

    def test_no_facts(self):
        for length in range(6):
            for trace in small_traces(length):
                self.compare(trace, all_completions(trace), ())

    def test_each_fact_alone(self):
        for length in range(4):
            for trace in small_traces(length):
                pairs = all_completions(trace)
                for fact in all_facts(trace, (0, 1, 2, 10)):
                    self.compare(trace, pairs, (fact,))

    def test_two_facts(self):
        for trace in ((ENTER, ENTER), (ENTER, TAIL), (ENTER, MARK), (ENTER, ("exit", 0)), (ENTER, ("catch", 0))):
            pairs = all_completions(trace)
            for facts in product(all_facts(trace, (0, 1)), repeat=2):
                self.compare(trace, pairs, facts)

    def test_each_fact_about_the_example(self):
        pairs = all_completions(T)
        for fact in all_facts(T, (0, 1, 2, 3, 4, 10)):
            self.compare(T, pairs, (fact,))

    def test_frames_and_stacks_of_five_entries(self):
        for trace in ((ENTER,) * 5, (ENTER, ENTER, TAIL, ENTER, TAIL), (ENTER, ENTER, ("catch", 0), TAIL, ENTER)):
            pairs = all_completions(trace)
            for fact in all_facts(trace, ()):
                self.compare(trace, pairs, (fact,))

    def test_several_returned_frames(self):
        pairs = all_completions((ENTER,) * 4)
        facts = [("returned", frame, moment) for frame in range(4) for moment in range(frame + 1, 5)]
        for chosen in product(facts, repeat=3):
            self.compare((ENTER,) * 4, pairs, chosen)

    def test_facts_together(self):
        chance = Random(31)
        for trace in some_traces(chance):
            pairs = all_completions(trace)
            facts = all_facts(trace, NUMBERS)
            for chosen in some_facts(chance, trace, pairs, facts):
                self.compare(trace, pairs, chosen)

    def test_large_traces_with_few_completions(self):
        solved = 0
        for trace, facts, pairs in large_problems(32, 40):
            self.compare(trace, pairs, facts)
            solved += len(pairs) > 0
        self.assertGreater(solved, 0)


class Properties(unittest.TestCase):
    def test_the_order_of_facts_does_not_matter(self):
        chance = Random(33)
        for _ in range(40):
            trace, completion = random_pair(chance, 6)
            if created(trace, 6) == 0:
                continue
            facts = near_facts(chance, trace, meaning(trace, completion), 4)
            for function in SOLVING:
                expected = function(trace, facts)
                for other in permutations(facts):
                    self.assertEqual(function(trace, other), expected)

    def test_a_repeated_fact_does_not_matter(self):
        for fact in all_facts(T, (0, 1, 2)):
            for function in SOLVING:
                self.assertEqual(function(T, (fact,) * 8), function(T, (fact,)))

    def test_an_additional_fact_never_makes_facts_consistent(self):
        chance = Random(34)
        inconsistent = 0
        for _ in range(60):
            trace = large_trace(chance)
            facts = tuple(chance.choice(all_facts(trace, (0, 3, 10))) for _ in range(8))
            known = True
            for many in range(9):
                found = most_returned(trace, facts[:many])
                self.assertTrue(known or found is None)
                known = found is not None
            inconsistent += not known
        self.assertGreater(inconsistent, 0)

    def test_large_traces_with_any_facts(self):
        chance = Random(35)
        for _ in range(80):
            trace = large_trace(chance)
            choices = all_facts(trace, (0, 1, 5, 10))
            for _ in range(3):
                facts = tuple(chance.choice(choices) for _ in range(8))
                most = most_returned(trace, facts)
                fewest = fewest_returned(trace, facts)
                for found in (most, fewest):
                    if found is not None:
                        self.assertTrue(all(true(trace, meaning(trace, found), fact) for fact in facts))
                if most is None:
                    self.assertIsNone(fewest)

    def test_large_traces_with_facts_that_hold_together(self):
        chance = Random(36)
        for _ in range(80):
            trace, completion = random_pair(chance, 24)
            known = meaning(trace, completion)
            if created(trace, 24) == 0:
                continue
            facts = tuple(fact for fact in near_facts(chance, trace, known, 8) if true(trace, known, fact))
            most = meaning(trace, most_returned(trace, facts))
            self.assertTrue(all(larger >= total for larger, total in zip(most.totals, known.totals)))
            fewest = fewest_returned(trace, facts)
            if fewest is not None:
                least = meaning(trace, fewest).totals
                self.assertTrue(all(smaller <= total for smaller, total in zip(least, known.totals)))

    def test_eight_stacks_of_a_large_trace(self):
        chance = Random(37)
        for _ in range(40):
            trace, completion = random_pair(chance, 24)
            known = meaning(trace, completion)
            moments = chance.sample(range(25), 8)
            facts = tuple(("stack", moment, known.stacks[moment]) for moment in moments)
            found = meaning(trace, most_returned(trace, facts))
            self.assertEqual([found.stacks[moment] for moment in moments], [known.stacks[moment] for moment in moments])

    def test_deep_stacks(self):
        trace = (ENTER,) * 10 + (MARK,) * 14
        self.assertEqual(fewest_returned(trace, ()), (0,) * 25)
        self.assertEqual(most_returned(trace, ()), (0,) + (1,) * 10 + (0,) * 14)
        facts = tuple(("returned", frame, 24) for frame in range(1, 9))
        self.assertIsNone(fewest_returned(trace, facts))
        self.assertEqual(most_returned(trace, facts), (0,) + (1,) * 10 + (0,) * 14)
        facts = (("stack", 24, (0, 9)), ("deeper", 12, 24, 5))
        self.assertEqual(fewest_returned(trace, (("stack", 24, (0, 9)),)), (0,) * 9 + (8,) + (0,) * 15)
        self.assertIsNone(most_returned(trace, facts))


class Merging(unittest.TestCase):
    def compare(self, trace, first, second):
        larger = merge_most(trace, first, second)
        smaller = merge_fewest(trace, first, second)
        pairs = list(zip(meaning(trace, first).totals, meaning(trace, second).totals))
        self.assertEqual(meaning(trace, larger).totals, [max(pair) for pair in pairs])
        self.assertEqual(meaning(trace, smaller).totals, [min(pair) for pair in pairs])
        self.assertEqual(merge_most(trace, second, first), larger)
        self.assertEqual(merge_fewest(trace, second, first), smaller)
        return larger, smaller

    def test_all_pairs_of_completions_of_small_traces(self):
        for length in range(5):
            for trace in small_traces(length):
                rows = [row for row, known in all_completions(trace)]
                for first, second in product(rows, repeat=2):
                    for merged in self.compare(trace, first, second):
                        self.assertIn(merged, rows)

    def test_equal_completions(self):
        for trace, completion in random_pairs(38, 100):
            for function in MERGING:
                self.assertEqual(function(trace, completion, completion), completion)

    def test_pairs_of_long_traces(self):
        chance = Random(39)
        for trace, completion in random_pairs(40, 150):
            if created(trace, len(trace)) == 0:
                continue
            facts = near_facts(chance, trace, meaning(trace, completion), 3)
            for other in (most_returned(trace, ()), fewest_returned(trace, ()), most_returned(trace, facts)):
                if other is not None:
                    self.compare(trace, completion, other)

    def test_facts_of_both_hold_in_the_larger_one(self):
        traces = [trace for length in range(4) for trace in small_traces(length)]
        for trace in traces + [T, (ENTER, ENTER, TAIL, ENTER, TAIL)]:
            facts = all_facts(trace, (0, 1, 2))
            told = {row: [fact for fact in facts if true(trace, known, fact)] for row, known in all_completions(trace)}
            for first, second in product(told, repeat=2):
                both = set(told[first]) & set(told[second])
                self.assertLessEqual(both, set(told[merge_most(trace, first, second)]))

    def test_facts_of_both_hold_in_the_larger_one_of_long_traces(self):
        chance = Random(41)
        for trace, completion in random_pairs(42, 40):
            other = most_returned(trace, ())
            merged = merge_most(trace, completion, fewest_returned(trace, ()))
            self.assertEqual(merged, completion)
            if created(trace, len(trace)):
                for fact in near_facts(chance, trace, meaning(trace, completion), 8):
                    if holds(trace, completion, fact) and holds(trace, other, fact):
                        self.assertIs(holds(trace, merge_most(trace, completion, other), fact), True)

    def test_kinds_of_values(self):
        for function in MERGING:
            found = function(T, EARLY, FULL)
            self.assertIs(is_completion(T, found), True)
            self.assertEqual([type(number) for number in found], [int] * 6)


class Errors(unittest.TestCase):
    def test_invalid_trace_comes_first(self):
        for trace in NOT_TRACES:
            for other in ((), (ANY_DEPTH,), FULL, None, [], (ANY_DEPTH,) * 9):
                for function in SOLVING:
                    with self.assertRaises(InvalidTrace):
                        function(trace, other)
                for function in MERGING:
                    with self.assertRaises(InvalidTrace):
                        function(trace, other, other)
                    with self.assertRaises(InvalidTrace):
                        function(trace, FULL, other)

    def test_invalid_facts(self):
        for facts in NOT_FACTS:
            for function in SOLVING:
                with self.subTest(function.__name__, facts=repr(facts)[:60]), self.assertRaises(InvalidFacts):
                    function(T, facts)

    def test_invalid_facts_about_a_trace_without_a_valid_completion(self):
        trace = (ENTER, ("exit", 0), ("exit", 0))
        for function in SOLVING:
            with self.assertRaises(InvalidFacts):
                function(trace, (("depth", 4, 0, 0),))

    def test_facts_of_another_trace(self):
        for function in SOLVING:
            with self.assertRaises(InvalidFacts):
                function(T[:4], (("active", 3, 5),))

    def test_invalid_completion(self):
        for function in MERGING:
            for value in NOT_COMPLETIONS:
                for first, second in ((value, FULL), (FULL, value), (value, value)):
                    with self.subTest(function.__name__, value=repr(value)[:60]):
                        with self.assertRaises(InvalidCompletion):
                            function(T, first, second)

    def test_eight_and_nine_facts(self):
        self.assertEqual(most_returned(T, (ANY_DEPTH,) * 8), (0, 1, 0, 1, 0, 1))
        self.assertEqual(fewest_returned(T, (ANY_DEPTH,) * 8), (0, 0, 0, 1, 0, 0))
        for function in SOLVING:
            with self.assertRaises(InvalidFacts):
                function(T, (ANY_DEPTH,) * 9)


class GeneralRules(unittest.TestCase):
    def test_equal_arguments_give_equal_results(self):
        for fact in all_facts(T, (0, 1, 2)):
            for function in SOLVING:
                first = function(T, (fact,))
                self.assertEqual(function(tuple(list(T)), (tuple(list(fact)),)), first)
        for function in MERGING:
            self.assertEqual(function(T, EARLY, FULL), function(tuple(list(T)), EARLY, FULL))

    def test_lists_in_arguments_are_not_changed(self):
        for value in NOT_FACTS:
            kept = repr(value)
            for function in SOLVING:
                with self.assertRaises(InvalidFacts):
                    function(T, value)
            self.assertEqual(repr(value), kept)

    def test_renamed_functions_change_nothing(self):
        renamed = tuple((kind, "x") if kind == "enter" else (kind, frame) for kind, frame in T)
        for fact in all_facts(T, (0, 1, 2)):
            for function in SOLVING:
                self.assertEqual(function(renamed, (fact,)), function(T, (fact,)))
        for function in MERGING:
            self.assertEqual(function(renamed, EARLY, FULL), function(T, EARLY, FULL))

    def test_results_are_completions(self):
        for function in SOLVING:
            found = function(T, (("returned", 0, 4),))
            self.assertIs(is_completion(T, found), True)
            self.assertEqual(len(totals(T, found)), 6)


if __name__ == "__main__":
    unittest.main()
