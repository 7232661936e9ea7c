import copy
import unittest
from random import Random

from reference import (
    NOT_FACTS,
    NOT_TRACES,
    ODD_VALUES,
    WITHOUT_COMPLETION,
    T,
    all_completions,
    all_facts,
    created,
    derives,
    large_problems,
    large_trace,
    line_follows,
    meaning,
    near_facts,
    random_pair,
    satisfying,
    small_traces,
)

from lostexits.derivations import derivation, is_derivation
from lostexits.errors import InvalidFacts, InvalidTrace
from lostexits.solving import most_returned

ENTER = ("enter", "f")
TAIL = ("tail", "g")
MARK = ("mark",)
LARGE = 10**40 - 1
ONE_MARK = (MARK,)
ONE_DEEP = (("depth", 1, 1, 2),)
GIVEN = [(1, -1, ("fact", 0)), (0, -1, ("event", 0))]
# This fact alone is never true, so any lines that follow are a derivation with one line more.
NEVER = ("depth", 0, 1, 1)


def sources(trace, facts):
    return [("event", at) for at in range(len(trace))] + [("fact", index) for index in range(len(facts))]


def mutations(trace, facts, lines):
    """Lists of lines that are near to a derivation, most of them wrong."""
    for at, (moment, bound, source) in enumerate(lines):
        others = [(other, bound, source) for other in (moment - 1, moment + 1, 0, len(trace), len(trace) + 1)]
        others += [(moment, other, source) for other in (bound - 1, bound + 1, -bound, 0)]
        others += [(moment, bound, other) for other in sources(trace, facts)]
        others += [(moment, bound, (source[0], other)) for other in (-1, source[1] + 1, 100)]
        for other in others:
            yield lines[:at] + [other] + lines[at + 1 :]
        yield lines[:at] + lines[at + 1 :]
        yield lines[: at + 1] + lines[at:]
        yield lines[:at]
        yield lines[:at] + lines[at + 1 :] + [lines[at]]
        yield [lines[at]] + lines[:at] + lines[at + 1 :]
        yield lines[:at] + lines[at + 1 : at + 2] + [lines[at]] + lines[at + 2 :]
    yield lines + lines
    yield lines[::-1]


class Examples(unittest.TestCase):
    def test_derivation(self):
        facts = (("active", 2, 4),)
        self.assertIs(is_derivation(T, facts, derivation(T, facts)), True)

    def test_is_derivation(self):
        self.assertIs(is_derivation(ONE_MARK, ONE_DEEP, [(1, -1, ("fact", 0)), (0, -1, ("event", 0))]), True)


class WorkedByHand(unittest.TestCase):
    def accept(self, trace, facts, *values):
        for value in values:
            with self.subTest(value=repr(value)[:80]):
                self.assertIs(is_derivation(trace, facts, value), True)
                self.assertIs(derives(trace, facts, value), True)

    def refuse(self, trace, facts, *values):
        for value in values:
            with self.subTest(value=repr(value)[:80]):
                self.assertIs(is_derivation(trace, facts, value), False)

    def test_the_order_of_lines(self):
        self.refuse(ONE_MARK, ONE_DEEP, GIVEN[::-1], GIVEN[:1], GIVEN[1:], [])
        self.accept(ONE_MARK, ONE_DEEP, GIVEN, GIVEN * 2, GIVEN[:1] + GIVEN, GIVEN + GIVEN[1:])
        self.refuse(ONE_MARK, ONE_DEEP, GIVEN + GIVEN[:1])

    def test_bounds_of_lines(self):
        # The fact gives p(1) <= e(1) - 1, which is -1; a larger bound follows as well, but says less.
        self.refuse(ONE_MARK, ONE_DEEP, [(1, -2, ("fact", 0)), GIVEN[1]], [GIVEN[0], (0, -2, ("event", 0))])
        self.refuse(ONE_MARK, ONE_DEEP, [(1, 0, ("fact", 0)), GIVEN[1]], [GIVEN[0], (0, 0, ("event", 0))])
        self.accept(ONE_MARK, ONE_DEEP, [(1, LARGE, ("fact", 0))] + GIVEN, [(1, 0, ("fact", 0))] + GIVEN)
        self.refuse(ONE_MARK, ONE_DEEP, [(1, -LARGE, ("fact", 0))] + GIVEN)

    def test_the_smallest_bound_before_a_line_counts(self):
        self.accept(ONE_MARK, ONE_DEEP, [GIVEN[0], (1, 5, ("fact", 0)), GIVEN[1]])
        self.accept(ONE_MARK, ONE_DEEP, [GIVEN[0], (1, 5, ("fact", 0)), (0, 5, ("event", 0)), GIVEN[1]])

    def test_e_counts_where_no_bound_is_smaller(self):
        # p(1) is at most e(1) = 1, and p(0) is at most e(0) = 0, whatever the lines say.
        facts = (("returns", 0, 1, 2, 2), ("returns", 0, 1, 0, 3), NEVER)
        end = (0, -1, ("fact", 2))
        self.accept((ENTER,), facts, [(0, -1, ("fact", 0))], [(1, 9, ("fact", 1)), (0, -1, ("fact", 0))])
        self.refuse((ENTER,), facts, [(0, -2, ("fact", 0))], [(1, 1, ("fact", 1)), (0, -2, ("fact", 0))])
        self.accept((ENTER,), facts, [(1, 3, ("fact", 1)), end], [(1, 2, ("fact", 0)), end])
        self.refuse((ENTER,), facts, [(1, 2, ("fact", 1)), end], [(1, 1, ("fact", 0)), end])

    def test_a_frame_that_exits_twice(self):
        trace = (ENTER, ("exit", 0), ("exit", 0))
        # The second exit gives p(2) <= p(0) + 0, and the first one p(1) <= p(2) - 1.
        self.accept(trace, (), [(2, 0, ("event", 2)), (1, -1, ("event", 1)), (0, -1, ("event", 0))])
        self.refuse(trace, (), [(2, 0, ("event", 1)), (1, -1, ("event", 1)), (0, -1, ("event", 0))])
        self.refuse(trace, (), [(1, -1, ("event", 1)), (0, -1, ("event", 0))])

    def test_a_tail_call_without_an_active_frame(self):
        # The tail call gives p(2) <= e(2) - 1 = 0.
        trace = (ENTER, ("exit", 0), TAIL)
        self.accept(trace, (), [(2, 0, ("event", 2)), (1, -1, ("event", 1)), (0, -1, ("event", 0))])
        self.refuse(trace, (), [(2, -1, ("event", 2)), (1, -1, ("event", 1)), (0, -1, ("event", 0))])

    def test_an_empty_trace(self):
        self.accept((), (NEVER,), [(0, -1, ("fact", 0))])
        self.refuse((), (NEVER,), [(0, -2, ("fact", 0))], [(0, 0, ("fact", 0))], [(1, -1, ("fact", 0))], [])
        self.refuse((), (), [], [(0, -1, ("fact", 0))], [(0, -1, ("event", 0))])

    def test_sources_that_are_not_there(self):
        for source in (("event", 1), ("event", -1), ("fact", 1), ("fact", -1), ("event", LARGE), ("fact", -LARGE)):
            self.refuse(ONE_MARK, ONE_DEEP, [(1, 9, source)] + GIVEN, GIVEN[:1] + [(0, -1, source)])

    def test_moments_that_are_not_there(self):
        for moment in (-1, 2, 3, 24, LARGE, -LARGE):
            for source in (("event", 0), ("fact", 0)):
                self.refuse(ONE_MARK, ONE_DEEP, [(moment, 9, source)] + GIVEN, GIVEN + [(moment, -1, source)])

    def test_the_last_line(self):
        facts = (("depth", 1, 1, 2), ("depth", 0, 1, 2))
        end = (0, -1, ("fact", 1))
        self.accept(ONE_MARK, facts, [end], GIVEN, GIVEN + [end], [end, (0, -1, ("fact", 1))])
        self.refuse(ONE_MARK, facts, [end, (0, 0, ("fact", 1))], [end, GIVEN[0]], [end, (0, 3, ("event", 0))])


class Numbers(unittest.TestCase):
    def test_1500_and_1501_lines(self):
        for many in (1, 2, 1499, 1500):
            self.assertIs(is_derivation(ONE_MARK, (NEVER,), [(0, -1, ("fact", 0))] * many), True)
        for many in (0, 1501, 1502, 3000):
            self.assertIs(is_derivation(ONE_MARK, (NEVER,), [(0, -1, ("fact", 0))] * many), False)

    def test_1500_lines_about_a_large_trace(self):
        trace = (ENTER,) * 10 + (MARK,) * 14
        facts = (("stack", 24, (0, 4)),) * 7 + (NEVER,)
        # Frame 4 is active at moment 24, so p(24) <= p(4) + e(24) - e(4) - 1, which is 4 + 10 - 4 - 1.
        lines = [(24, 9, ("fact", index % 7)) for index in range(1499)] + [(0, -1, ("fact", 7))]
        self.assertIs(is_derivation(trace, facts, lines), True)
        self.assertIs(is_derivation(trace, facts, lines[:1] + lines), False)
        self.assertIs(is_derivation(trace, facts, [(24, 8, ("fact", 0))] + lines[1:]), False)


class Values(unittest.TestCase):
    def refuse(self, *values):
        for value in values:
            with self.subTest(repr(value)[:80]):
                self.assertIs(is_derivation(ONE_MARK, ONE_DEEP, value), False)

    def test_odd_values(self):
        self.refuse(*ODD_VALUES)
        self.refuse(*[[value] for value in ODD_VALUES])
        self.refuse(*[GIVEN + [value] for value in ODD_VALUES])
        self.refuse(*[[value] + GIVEN for value in ODD_VALUES])

    def test_odd_values_in_the_place_of_a_part(self):
        for at, line in enumerate(GIVEN):
            for place in range(3):
                for value in ODD_VALUES:
                    if repr(value) != repr(line[place]):
                        changed = line[:place] + (value,) + line[place + 1 :]
                        self.refuse(GIVEN[:at] + [changed] + GIVEN[at + 1 :])

    def test_bool_in_the_place_of_an_integer(self):
        facts = ONE_DEEP + (NEVER,)
        for line in (
            (True, -1, ("fact", 0)),
            (False, -1, ("fact", 1)),
            (1, True, ("fact", 0)),
            (1, False, ("fact", 0)),
            (1, -1, ("fact", False)),
            (0, -1, ("fact", True)),
            (0, 9, ("event", False)),
        ):
            self.assertIs(is_derivation(ONE_MARK, facts, [line] + GIVEN), False)
            self.assertIs(is_derivation(ONE_MARK, facts, [line]), False)

    def test_lists_and_tuples(self):
        self.refuse(tuple(GIVEN), [GIVEN], (GIVEN,), [tuple(GIVEN)], [list(line) for line in GIVEN])
        self.refuse([(1, -1, ["fact", 0]), GIVEN[1]], [GIVEN[0], (0, -1, ["event", 0])])

    def test_parts_too_many_or_too_few(self):
        for line in (
            (1, -1),
            (1, -1, ("fact", 0), 0),
            (1, -1, ("fact",)),
            (1, -1, ("fact", 0, 0)),
            (1, -1, "fact", 0),
            (1, -1, ()),
            (1, -1, ("fact", None)),
            (1, -1, ("Fact", 0)),
            (1, -1, ("facts", 0)),
            (1, -1, (0, "fact")),
            (1, -1, (["fact"], 0)),
            (1, -1, ("fact", [0])),
            (1, -1, (None, 0)),
        ):
            self.refuse([line, GIVEN[1]], [line] + GIVEN, GIVEN + [line])


class SecondCheck(unittest.TestCase):
    def compare(self, trace, facts, lines):
        self.assertIs(is_derivation(trace, facts, lines), derives(trace, facts, lines), (trace, facts, lines))

    def compare_single_lines(self, trace, facts, before):
        """Compare for each source, each moment and each bound near the smallest one that follows."""
        facts += (NEVER,)
        end = (0, -1, ("fact", len(facts) - 1))
        for source in sources(trace, facts):
            for moment in range(len(trace) + 1):
                for bound in range(-4, 5):
                    line = (moment, bound, source)
                    told = is_derivation(trace, facts, before + [line, end])
                    self.assertIs(told, line_follows(trace, facts, before, line), (trace, facts, before, line))

    def test_each_line_from_no_lines(self):
        for length in range(4):
            for trace in small_traces(length):
                self.compare_single_lines(trace, (), [])

    def test_each_line_from_no_lines_with_facts(self):
        chance = Random(51)
        for trace in (T, (ENTER, ENTER, TAIL, ENTER, TAIL), (ENTER, TAIL, ENTER, ("catch", 1), ("exit", 1))):
            for _ in range(25):
                facts = tuple(chance.choice(all_facts(trace, (0, 1, 2, 3))) for _ in range(4))
                self.compare_single_lines(trace, facts, [])

    def test_each_line_from_some_lines(self):
        chance = Random(52)
        for _ in range(60):
            trace, completion = random_pair(chance, 6)
            facts = tuple(chance.choice(all_facts(trace, (0, 1, 2, 3))) for _ in range(4))
            known = derivation(trace, facts) or []
            self.compare_single_lines(trace, facts, known[: chance.randrange(len(known) + 1)])

    def test_changed_derivations(self):
        chance = Random(53)
        accepted = 0
        for _ in range(50):
            trace, completion = random_pair(chance, 6)
            facts = tuple(chance.choice(all_facts(trace, (0, 1, 2, 3))) for _ in range(3))
            lines = derivation(trace, facts)
            for changed in mutations(trace, facts, lines or []):
                self.compare(trace, facts, changed)
                accepted += derives(trace, facts, changed)
        self.assertGreater(accepted, 0)

    def test_changed_derivations_for_traces_without_a_valid_completion(self):
        for trace in WITHOUT_COMPLETION:
            for changed in mutations(trace, (), derivation(trace, ())):
                self.compare(trace, (), changed)

    def test_changed_derivations_of_large_traces(self):
        chance = Random(54)
        for _ in range(4):
            trace = large_trace(chance)
            facts = tuple(chance.choice(all_facts(trace, (0, 5, 10))) for _ in range(8))
            lines = derivation(trace, facts)
            if lines is not None and len(lines) < 60:
                changed = list(mutations(trace, facts, lines))
                for other in chance.sample(changed, min(len(changed), 150)):
                    self.compare(trace, facts, other)


class Finding(unittest.TestCase):
    def check(self, trace, facts, consistent):
        found = derivation(trace, facts)
        self.assertEqual(found is None, consistent, (trace, facts))
        self.assertEqual(most_returned(trace, facts) is None, not consistent, (trace, facts))
        if found is not None:
            self.assertIs(is_derivation(trace, facts, found), True, (trace, facts, found))
            self.assertIs(derives(trace, facts, found), True, (trace, facts, found))

    def test_traces_without_a_valid_completion(self):
        for trace in WITHOUT_COMPLETION:
            self.check(trace, (), False)
            self.check(trace, (("depth", 0, 0, 10), ("deeper", 1, 0, -10)), False)

    def test_no_facts(self):
        for length in range(6):
            for trace in small_traces(length):
                self.check(trace, (), len(all_completions(trace)) > 0)

    def test_each_fact_alone(self):
        for length in range(4):
            for trace in small_traces(length):
                pairs = all_completions(trace)
                for fact in all_facts(trace, (0, 1, 2, 10)):
                    self.check(trace, (fact,), len(satisfying(trace, pairs, (fact,))) > 0)

    def test_facts_together(self):
        chance = Random(55)
        for length in range(7):
            for trace in small_traces(length):
                if length > 3 and chance.randrange(2 * (length - 3) ** 4):
                    continue
                pairs = all_completions(trace)
                choices = all_facts(trace, (0, 1, 2, 3, 10))
                for many in (2, 3, 8):
                    facts = tuple(chance.choice(choices) for _ in range(many))
                    self.check(trace, facts, len(satisfying(trace, pairs, facts)) > 0)
                    if pairs and created(trace, length):
                        facts = near_facts(chance, trace, chance.choice(pairs)[1], many)
                        self.check(trace, facts, len(satisfying(trace, pairs, facts)) > 0)

    def test_large_traces_with_few_completions(self):
        for trace, facts, pairs in large_problems(56, 40):
            self.check(trace, facts, len(pairs) > 0)

    def test_large_traces_with_any_facts(self):
        chance = Random(57)
        inconsistent = 0
        for _ in range(60):
            trace = large_trace(chance)
            facts = tuple(chance.choice(all_facts(trace, (0, 1, 5, 10))) for _ in range(8))
            found = derivation(trace, facts)
            self.assertEqual(found is None, most_returned(trace, facts) is not None)
            if found is not None:
                inconsistent += 1
                self.assertIs(is_derivation(trace, facts, found), True)
                self.assertIs(derives(trace, facts, found), True)
        self.assertGreater(inconsistent, 30)

    def test_a_frame_that_exits_twice_in_a_large_trace(self):
        for at in range(11, 24):
            trace = (ENTER,) * 10 + (MARK,) * 14
            trace = trace[:10] + (("exit", 0),) + trace[11:at] + (("exit", 0),) + trace[at + 1 :]
            self.check(trace, (), False)
            self.check(trace, (("depth", 24, 0, 10),) * 8, False)

    def test_slow_descents(self):
        # Two facts that lower each other's bounds step by step.
        trace = (ENTER,) * 10 + (MARK,) * 14
        self.check(trace, (("deeper", 24, 10, 1),), False)
        self.check(trace, (("deeper", 24, 11, 0), ("returns", 11, 24, 1, 10)), False)
        self.check(trace, tuple(("deeper", 11 + k, 10 + k, 1) for k in range(8)), False)
        self.check(trace, (("active", 0, 24), ("stack", 24, (1, 2, 3, 4, 5, 6, 7, 8, 9))), False)
        self.check(trace, (("active", 0, 24), ("returned", 1, 23), ("active", 1, 24), ("deeper", 23, 24, -1)), False)

    def test_nothing_is_accepted_for_consistent_facts(self):
        chance = Random(58)
        for _ in range(60):
            trace, completion = random_pair(chance, 6)
            known = meaning(trace, completion)
            facts = tuple(("stack", moment, known.stacks[moment]) for moment in (2, 4))
            self.assertIsNone(derivation(trace, facts))
            lines = []
            for _ in range(200):
                line = (chance.randrange(7), chance.randrange(-2, 6), chance.choice(sources(trace, facts)))
                if line_follows(trace, facts, lines, line):
                    self.assertGreaterEqual(line[1], known.totals[line[0]])
                    lines.append(line)
                self.assertIs(is_derivation(trace, facts, lines), False)
                self.assertIs(is_derivation(trace, facts, lines + [(0, -1, ("event", 0))]), False)


class Errors(unittest.TestCase):
    def test_invalid_trace_comes_first(self):
        for trace in NOT_TRACES:
            for facts in ((), (NEVER,), None, [], (NEVER,) * 9):
                with self.assertRaises(InvalidTrace):
                    derivation(trace, facts)
                for value in (GIVEN, None, ()):
                    with self.assertRaises(InvalidTrace):
                        is_derivation(trace, facts, value)

    def test_invalid_facts_come_second(self):
        for facts in NOT_FACTS:
            with self.subTest(repr(facts)[:60]):
                with self.assertRaises(InvalidFacts):
                    derivation(T, facts)
                for value in (GIVEN, None, (), [(0, -1, ("fact", 0))]):
                    with self.assertRaises(InvalidFacts):
                        is_derivation(T, facts, value)


class GeneralRules(unittest.TestCase):
    def test_equal_arguments_give_an_equal_new_list(self):
        facts = (("active", 2, 4),)
        first = derivation(T, facts)
        second = derivation(tuple(list(T)), (tuple(list(facts[0])),))
        self.assertIs(type(first), list)
        self.assertEqual(first, second)
        self.assertIsNot(first, second)
        first.clear()
        self.assertEqual(derivation(T, facts), second)

    def test_lines_are_tuples_of_integers_and_sources(self):
        for moment, bound, source in derivation(T, (("active", 2, 4),)):
            self.assertEqual((type(moment), type(bound), type(source)), (int, int, tuple))
            self.assertEqual((type(source[0]), type(source[1]), len(source)), (str, int, 2))

    def test_arguments_are_not_changed(self):
        for value in ODD_VALUES + [GIVEN, GIVEN * 2, GIVEN + [[]], [list(line) for line in GIVEN]]:
            kept = copy.deepcopy(value)
            first = is_derivation(ONE_MARK, ONE_DEEP, value)
            self.assertEqual(value, kept)
            self.assertIs(is_derivation(ONE_MARK, ONE_DEEP, value), first)

    def test_renamed_functions_change_nothing(self):
        renamed = tuple((kind, "x") if kind == "enter" else (kind, frame) for kind, frame in T)
        for fact in all_facts(T, (0, 1, 2)):
            found = derivation(T, (fact,))
            self.assertEqual(derivation(renamed, (fact,)), found)
            self.assertIs(is_derivation(renamed, (fact,), found), found is not None)


if __name__ == "__main__":
    unittest.main()
