import copy
import unittest
from itertools import permutations
from random import Random

from reference import (
    ANY_DEPTH,
    NOT_FACTS,
    NOT_TRACES,
    ODD_VALUES,
    WITHOUT_COMPLETION,
    T,
    all_completions,
    all_facts,
    created,
    meaning,
    near_facts,
    random_pair,
    renamed,
    satisfying,
    small_traces,
    some_facts,
    some_traces,
    told_sample,
    work,
)

from lostexits.counting import best_sample, completion_at, count, number_of
from lostexits.errors import CapacityError, InvalidCompletion, InvalidFacts, InvalidNumber, InvalidTrace
from lostexits.facts import holds
from lostexits.queries import status

ENTER = ("enter", "f")
TAIL = ("tail", "g")
MARK = ("mark",)
FULL = (0, 0, 0, 1, 0, 2)
LARGE = 10**40 - 1
WITHOUT_LAST = (count, best_sample)
WITH_LAST = (completion_at, number_of)
NOT_COMPLETIONS = ODD_VALUES + [list(FULL), (0,) * 6, FULL[:5], FULL + (0,), (False,) + FULL[1:]]
NOT_NUMBERS = [value for value in ODD_VALUES if value not in (0, 1, LARGE) or isinstance(value, bool)] + [
    -1,
    -LARGE,
    "0",
    (0,),
    [0],
    FULL,
]


class Examples(unittest.TestCase):
    def test_count(self):
        self.assertEqual(count(T, ()), 7)

    def test_completion_at(self):
        self.assertEqual(completion_at(T, (), 3), (0, 0, 0, 1, 1, 0))

    def test_number_of(self):
        self.assertEqual(number_of(T, (), (0, 1, 0, 1, 0, 0)), 5)

    def test_best_sample(self):
        self.assertEqual(best_sample(T, ()), (5, 3))


class CountCase(unittest.TestCase):
    def refuse(self, trace, facts, *numbers):
        for number in numbers:
            with self.subTest(trace=trace, facts=facts, number=number), self.assertRaises(InvalidNumber):
                completion_at(trace, facts, number)

    def compare(self, trace, pairs, facts):
        """Compare with the completions that are left, in ascending order."""
        left = satisfying(trace, pairs, facts)
        rows = [row for row, known in left]
        self.assertEqual(rows, sorted(rows))
        self.assertEqual(count(trace, facts), len(rows), (trace, facts))
        for number, row in enumerate(rows):
            self.assertEqual(completion_at(trace, facts, number), row, (trace, facts))
            self.assertEqual(number_of(trace, facts, row), number, (trace, facts))
        self.refuse(trace, facts, len(rows), len(rows) + 1, LARGE)
        self.assertEqual(best_sample(trace, facts), told_sample(trace, left), (trace, facts))
        return rows


class WorkedByHand(CountCase):
    def test_empty_trace(self):
        self.assertEqual(count((), ()), 1)
        self.assertEqual(completion_at((), (), 0), (0,))
        self.assertEqual(number_of((), (), (0,)), 0)
        self.assertIsNone(best_sample((), ()))
        self.refuse((), (), 1, 2)

    def test_no_completion(self):
        for trace in WITHOUT_COMPLETION:
            self.assertEqual(count(trace, ()), 0)
            self.assertIsNone(best_sample(trace, ()))
            self.refuse(trace, (), 0, 1, LARGE)
            with self.assertRaises(InvalidCompletion):
                number_of(trace, (), (0,) * (len(trace) + 1))
        self.assertEqual(count(T, (("active", 2, 4),)), 0)
        self.assertIsNone(best_sample(T, (("active", 2, 4),)))
        self.refuse(T, (("active", 2, 4),), 0, 1)

    def test_one_completion(self):
        trace = (ENTER, ENTER, ("exit", 1), ("exit", 0))
        self.assertEqual(count(trace, ()), 1)
        self.assertEqual(completion_at(trace, (), 0), (0,) * 5)
        self.assertEqual(number_of(trace, (), (0,) * 5), 0)
        self.assertIsNone(best_sample(trace, ()))
        self.refuse(trace, (), 1)
        self.assertIsNone(best_sample(T, (("stack", 5, (0, 3)),)))
        self.assertEqual(count(T, (("stack", 5, (0, 3)),)), 1)

    def test_two_completions(self):
        self.assertEqual(count((ENTER,), ()), 2)
        self.assertEqual(best_sample((ENTER,), ()), (1, 1))
        self.assertEqual([completion_at((ENTER,), (), number) for number in (0, 1)], [(0, 0), (0, 1)])

    def test_the_first_of_several_best_moments(self):
        # Frame 0 returns at moment 1, at moment 2, or not at all.
        self.assertEqual(best_sample((ENTER, MARK), ()), (1, 2))
        # Moments 1 and 2 show the same stack.
        self.assertEqual(best_sample((ENTER, MARK), (("returns", 1, 2, 0, 0),)), (1, 1))
        self.assertEqual(best_sample((MARK, MARK, ENTER, MARK), (("deeper", 4, 3, 0),)), (3, 1))

    def test_all_entries(self):
        # The completions of so many entries are counted by the Catalan numbers.
        for many, told in ((1, 2), (2, 5), (3, 14), (4, 42), (5, 132), (8, 4862), (9, 16796)):
            self.assertEqual(count((ENTER,) * many, ()), told)
        last = (0,) * 9 + (9,)
        self.assertEqual(completion_at((ENTER,) * 9, (), 9), last)
        self.assertEqual(number_of((ENTER,) * 9, (), last), 9)
        self.assertEqual(completion_at((ENTER,) * 9, (), 16795), (0,) + (1,) * 9)
        self.assertEqual(number_of((ENTER,) * 9, (), (0,) + (1,) * 9), 16795)
        self.refuse((ENTER,) * 9, (), 16796)


class AllCompletions(CountCase):
    def test_no_facts(self):
        for length in range(6):
            for trace in small_traces(length):
                if length < 5 or trace[-1] != MARK:
                    self.compare(trace, all_completions(trace), ())

    def test_each_fact_alone(self):
        for length in range(4):
            for trace in small_traces(length):
                pairs = all_completions(trace)
                for fact in all_facts(trace, (0, 1, 2)):
                    self.compare(trace, pairs, (fact,))

    def test_each_fact_about_the_example(self):
        pairs = all_completions(T)
        for fact in all_facts(T, (0, 1, 2, 3, 4, 10)):
            self.compare(T, pairs, (fact,))

    def test_facts_together(self):
        chance = Random(81)
        seen = {}
        for trace in some_traces(chance):
            if len(trace) < 5 or chance.randrange(4) == 0:
                pairs = all_completions(trace)
                facts = all_facts(trace, (0, 1, 2, 3, 10))
                for chosen in some_facts(chance, trace, pairs, facts):
                    many = min(3, len(self.compare(trace, pairs, chosen)))
                    seen[many] = seen.get(many, 0) + 1
        for many in range(4):
            self.assertGreater(seen[many], 100)

    def test_nine_events(self):
        chance = Random(82)
        for _ in range(40):
            trace, completion = random_pair(chance, 9)
            pairs = all_completions(trace, (), 300)
            if pairs is None:
                continue
            self.compare(trace, pairs, ())
            if created(trace, 9):
                self.compare(trace, pairs, near_facts(chance, trace, meaning(trace, completion), 2))
                self.compare(trace, pairs, near_facts(chance, trace, meaning(trace, completion), 8))

    def test_samples_of_nine_entries(self):
        trace = (ENTER,) * 9
        moment, many = best_sample(trace, ())
        pairs = all_completions(trace)
        for other in range(10):
            sizes = {}
            for row, known in pairs:
                sizes[known.stacks[other]] = sizes.get(known.stacks[other], 0) + 1
            worst = max(sizes.values())
            self.assertTrue(worst > many or (worst == many and other >= moment))
            if other == moment:
                self.assertEqual(worst, many)

    def test_facts_that_compare_depths(self):
        chance = Random(86)
        for length in (2, 3, 4, 5, 6):
            traces = [(ENTER,) * length, (MARK, ENTER, ENTER, TAIL, ENTER, MARK)[:length]]
            traces += [random_pair(chance, length)[0] for _ in range(8)]
            for trace in traces:
                pairs = all_completions(trace)
                facts = [fact for fact in all_facts(trace, (0, 1, 2, 10)) if fact[0] in ("returns", "deeper")]
                for many in (1, 2, 2, 3, 4):
                    self.compare(trace, pairs, tuple(chance.choice(facts) for _ in range(many)))


class NineEntries(CountCase):
    """The trace with the most completions, 16796."""

    @classmethod
    def setUpClass(cls):
        cls.trace = (ENTER,) * 9
        cls.pairs = all_completions(cls.trace)

    def compare_some(self, chance, facts):
        """Compare with the completions that are left, but of many only some by their numbers."""
        left = satisfying(self.trace, self.pairs, facts)
        rows = [row for row, known in left]
        self.assertEqual(count(self.trace, facts), len(rows), facts)
        for number in sorted({0, len(rows) - 1, *(chance.randrange(max(1, len(rows))) for _ in range(4))}):
            if 0 <= number < len(rows):
                self.assertEqual(completion_at(self.trace, facts, number), rows[number], facts)
                self.assertEqual(number_of(self.trace, facts, rows[number]), number, facts)
        self.refuse(self.trace, facts, len(rows), len(rows) + 1)
        self.assertEqual(best_sample(self.trace, facts), told_sample(self.trace, left), facts)
        return len(rows)

    def test_no_facts(self):
        self.assertEqual(self.compare_some(Random(87), ()), 16796)

    def test_numbers_ascend(self):
        for number, (row, known) in list(enumerate(self.pairs))[::97]:
            self.assertEqual(completion_at(self.trace, (), number), row)
            self.assertEqual(number_of(self.trace, (), row), number)

    def test_facts_that_compare_depths(self):
        chance = Random(88)
        for by in (-10, -9, -2, -1, 0):
            self.compare_some(chance, tuple(("deeper", 9, moment, by) for moment in range(1, 9)))
            self.compare_some(chance, tuple(("deeper", moment, 9, by) for moment in range(1, 9)))
            self.compare_some(chance, tuple(("deeper", moment + 1, moment, by) for moment in range(1, 9)))
        self.compare_some(chance, tuple(("returns", moment, 10 - moment, 1, 4) for moment in range(1, 5)))
        self.compare_some(chance, tuple(("returns", moment, moment + 2, 0, 3) for moment in range(8)))

    def test_facts_of_all_kinds(self):
        chance = Random(89)
        counts = []
        for many in (1, 1, 1, 2, 2, 2, 3, 3, 4, 8):
            known = chance.choice(self.pairs)[1]
            counts.append(self.compare_some(chance, near_facts(chance, self.trace, known, many)))
        self.assertGreater(max(counts), 1000)


class Work(unittest.TestCase):
    """How much work the functions do, told by the number of calls that they make."""

    def test_the_work_grows_with_the_stacks_and_not_with_the_completions(self):
        # The last moment of so many entries has 2 ** many stacks, but many more completions come to them.
        for many in range(10):
            trace = (ENTER,) * many
            most = 24 * 2**many + 60
            self.assertLess(work(count, trace, ()), most)
            self.assertLess(work(completion_at, trace, (), 0), most)
            self.assertLess(work(completion_at, trace, (), count(trace, ()) - 1), most)
            self.assertLess(work(number_of, trace, (), (0,) * (many + 1)), most)
            self.assertLess(work(best_sample, trace, ()), most)

    def test_facts_that_compare_depths(self):
        trace = (ENTER,) * 9
        for by in (-10, -2, -1):
            facts = tuple(("deeper", 9, moment, by) for moment in range(1, 9))
            self.assertLess(work(count, trace, facts), 60000)
            self.assertLess(work(best_sample, trace, facts), 60000)


class Properties(unittest.TestCase):
    def test_one_fact_more_never_increases_the_count(self):
        chance = Random(83)
        for _ in range(60):
            trace, completion = random_pair(chance, chance.randrange(1, 10))
            choices = all_facts(trace, (0, 1, 2, 10))
            facts = tuple(chance.choice(choices) for _ in range(8))
            counts = [count(trace, facts[:many]) for many in range(9)]
            self.assertEqual(counts, sorted(counts, reverse=True))

    def test_counts_agree_with_status(self):
        chance = Random(84)
        for _ in range(150):
            trace, completion = random_pair(chance, chance.randrange(1, 10))
            choices = all_facts(trace, (0, 1, 2, 10))
            facts = tuple(chance.choice(choices) for _ in range(chance.randrange(4)))
            fact = chance.choice(choices)
            before, after = count(trace, facts), count(trace, facts + (fact,))
            if before == 0:
                told = "inconsistent"
            else:
                told = {before: "entailed", 0: "excluded"}.get(after, "open")
            self.assertEqual(status(trace, facts, fact), told)

    def test_the_order_of_facts_does_not_matter(self):
        facts = (("active", 0, 3), ("depth", 5, 0, 2), ("deeper", 5, 4, 0), ("returns", 3, 5, 1, 3))
        for other in permutations(facts):
            self.assertEqual(count(T, other), count(T, facts))
            self.assertEqual(best_sample(T, other), best_sample(T, facts))
            for number in range(count(T, facts)):
                self.assertEqual(completion_at(T, other, number), completion_at(T, facts, number))

    def test_renamed_functions_change_nothing(self):
        chance = Random(85)
        for _ in range(30):
            trace, completion = random_pair(chance, chance.randrange(1, 7))
            other = renamed(trace)
            for facts in ((), (("depth", len(trace), 0, 1),)):
                self.assertEqual(count(other, facts), count(trace, facts))
                self.assertEqual(best_sample(other, facts), best_sample(trace, facts))
                for number in range(count(trace, facts)):
                    row = completion_at(trace, facts, number)
                    self.assertEqual(completion_at(other, facts, number), row)
                    self.assertEqual(number_of(other, facts, row), number)


class Errors(unittest.TestCase):
    def test_invalid_trace_comes_first(self):
        for trace in NOT_TRACES:
            for facts in ((), (ANY_DEPTH,), None, [], (ANY_DEPTH,) * 9):
                for function in WITHOUT_LAST:
                    with self.assertRaises(InvalidTrace):
                        function(trace, facts)
                for last in (0, FULL, None, True, -1, []):
                    for function in WITH_LAST:
                        with self.assertRaises(InvalidTrace):
                            function(trace, facts, last)

    def test_invalid_facts_come_second(self):
        for facts in NOT_FACTS:
            for trace in (T, T + (MARK,) * 5):
                # The fact at moment 6 is wrong about the short trace only.
                if facts == (ANY_DEPTH, ("depth", 6, 0, 10)) and len(trace) > 5:
                    continue
                for function in WITHOUT_LAST:
                    with self.subTest(function.__name__, facts=repr(facts)[:60]), self.assertRaises(InvalidFacts):
                        function(trace, facts)
                for last in (0, FULL, None, True, -1, []):
                    for function in WITH_LAST:
                        with self.subTest(function.__name__, facts=repr(facts)[:60]), self.assertRaises(InvalidFacts):
                            function(trace, facts, last)

    def test_invalid_number(self):
        # Wrong numbers come before a trace that is too long.
        for trace in (T, T + (MARK,) * 5, (MARK,) * 24, (ENTER, ("exit", 0), ("exit", 0))):
            for number in NOT_NUMBERS:
                with self.subTest(repr(number)[:60]), self.assertRaises(InvalidNumber):
                    completion_at(trace, (), number)

    def test_a_number_that_is_too_large_comes_behind_capacity(self):
        for number in (7, 8, 100, LARGE):
            with self.assertRaises(InvalidNumber):
                completion_at(T, (), number)
        for number in (0, 1, 7, 100, LARGE):
            with self.assertRaises(CapacityError):
                completion_at(T + (MARK,) * 5, (), number)
        with self.assertRaises(CapacityError):
            completion_at((ENTER, ("exit", 0), ("exit", 0)) + (MARK,) * 7, (), 0)

    def test_invalid_completion(self):
        for value in NOT_COMPLETIONS:
            with self.subTest(repr(value)[:60]), self.assertRaises(InvalidCompletion):
                number_of(T, (), value)

    def test_a_completion_that_does_not_satisfy_the_facts(self):
        rows = [completion_at(T, (), number) for number in range(7)]
        for fact in all_facts(T, (0, 1, 2)):
            for row in rows:
                if holds(T, row, fact):
                    self.assertIsInstance(number_of(T, (fact,), row), int)
                else:
                    with self.assertRaises(InvalidCompletion):
                        number_of(T, (fact,), row)
                    with self.assertRaises(InvalidCompletion):
                        number_of(T, (ANY_DEPTH, fact), row)

    def test_invalid_completion_comes_before_capacity(self):
        trace = (ENTER,) * 5 + (MARK,) * 5
        row = (0,) * 11
        for value in NOT_COMPLETIONS + [row[:10], list(row), (1,) + row[1:]]:
            with self.subTest(repr(value)[:60]), self.assertRaises(InvalidCompletion):
                number_of(trace, (), value)
        with self.assertRaises(InvalidCompletion):
            number_of(trace, (("depth", 10, 0, 4),), row)
        with self.assertRaises(CapacityError):
            number_of(trace, (), row)
        with self.assertRaises(CapacityError):
            number_of(trace, (("depth", 10, 5, 5),), row)

    def test_nine_and_ten_events(self):
        for event in (MARK, ENTER):
            trace = (event,) * 9
            row = (0,) * 10
            self.assertGreater(count(trace, ()), 0)
            self.assertEqual(completion_at(trace, (), 0), row)
            self.assertEqual(number_of(trace, (), row), 0)
            best_sample(trace, ())
            for many in (10, 11, 24):
                longer = trace + (MARK,) * (many - 9)
                for function in WITHOUT_LAST:
                    with self.assertRaises(CapacityError):
                        function(longer, ())
                with self.assertRaises(CapacityError):
                    completion_at(longer, (), 0)
                with self.assertRaises(CapacityError):
                    number_of(longer, (), (0,) * (many + 1))

    def test_ten_events_without_a_valid_completion(self):
        trace = (ENTER, ("exit", 0), ("exit", 0)) + (MARK,) * 7
        for function in WITHOUT_LAST:
            with self.assertRaises(CapacityError):
                function(trace, ())
        with self.assertRaises(InvalidCompletion):
            number_of(trace, (), (0,) * 11)


class GeneralRules(unittest.TestCase):
    def test_equal_arguments_give_equal_results(self):
        facts = (("depth", 5, 0, 1),)
        other, same = tuple(list(T)), (tuple(list(facts[0])),)
        for function in WITHOUT_LAST:
            self.assertEqual(function(other, same), function(T, facts))
            self.assertEqual(function(T, facts), function(T, facts))
        for number in range(count(T, facts)):
            row = completion_at(T, facts, number)
            self.assertEqual(completion_at(other, same, number), row)
            self.assertEqual(number_of(other, same, tuple(list(row))), number_of(T, facts, row))

    def test_kinds_of_values(self):
        self.assertIs(type(count(T, ())), int)
        self.assertIs(type(number_of(T, (), FULL)), int)
        self.assertEqual([type(part) for part in best_sample(T, ())], [int, int])
        self.assertIs(type(best_sample(T, ())), tuple)
        row = completion_at(T, (), 0)
        self.assertIs(type(row), tuple)
        self.assertEqual([type(part) for part in row], [int] * 6)

    def test_arguments_are_not_changed(self):
        for value in NOT_FACTS + NOT_COMPLETIONS:
            kept = copy.deepcopy(value)
            with self.assertRaises(InvalidTrace):
                count(list(T), value)
            with self.assertRaises(InvalidCompletion):
                number_of(T, (), value)
            for function in WITH_LAST:
                with self.assertRaises(InvalidFacts):
                    function(T, list(T), value)
            self.assertEqual(value, kept)


if __name__ == "__main__":
    unittest.main()
