import copy
import unittest

from reference import ODD_VALUES, T, all_completions, all_facts, random_pairs, small_traces, true
from reference import created as frames_before

from lostexits.completions import stacks, totals
from lostexits.errors import InvalidCompletion, InvalidFact, InvalidTrace
from lostexits.facts import holds, is_fact

ENTER = ("enter", "f")
MARK = ("mark",)
FULL = (0, 0, 0, 1, 0, 2)
LARGE = 10**40 - 1
FRAME_KINDS = ("active", "returned", "innermost")
# One fact of each kind about the trace of the examples.
ONE_OF_EACH = (
    ("depth", 4, 0, 10),
    ("active", 0, 4),
    ("returned", 1, 4),
    ("innermost", 0, 4),
    ("returns", 3, 5, 1, 3),
    ("deeper", 4, 3, -1),
    ("stack", 4, (0,)),
)
# These are no facts about the trace of the examples, but most are near to one.
NO_FACTS = ODD_VALUES + [
    list(ONE_OF_EACH[0]),
    ("depth", 6, 0, 1),
    ("active", 3, 4),
    ("stack", 4, [0]),
    ("stack", 4, (3,)),
    ("deeper", 4, 4, 0),
    ("returns", 4, 4, 0, 0),
    ("returned", 0, 0),
    ("innermost", 4, 5),
    (ONE_OF_EACH[0],),
]


class Examples(unittest.TestCase):
    def test_is_fact(self):
        self.assertIs(is_fact(T, ("active", 3, 4)), False)

    def test_holds(self):
        self.assertIs(holds(T, FULL, ("innermost", 0, 4)), True)


class FactCase(unittest.TestCase):
    def accept(self, *values, trace=T):
        for value in values:
            with self.subTest(value=value):
                self.assertIs(is_fact(trace, value), True)

    def refuse(self, *values, trace=T):
        for value in values:
            with self.subTest(value=repr(value)[:60]):
                self.assertIs(is_fact(trace, value), False)


class Forms(FactCase):
    def test_one_of_each(self):
        self.accept(*ONE_OF_EACH)

    def test_all_facts_about_small_traces(self):
        for length in range(4):
            for trace in small_traces(length):
                self.accept(*all_facts(trace, (0, 1, 10)), trace=trace)

    def test_parts_too_many_or_too_few(self):
        for fact in ONE_OF_EACH:
            self.refuse(fact[:-1], fact[:1], fact + (0,), fact + (None,), fact + fact[-1:], fact[1:], fact * 2)

    def test_lists_in_the_place_of_tuples(self):
        self.refuse(*[list(fact) for fact in ONE_OF_EACH])
        self.refuse(("stack", 4, [0]), ("stack", 4, []), ("stack", 0, []), ("stack", 4, ([0],)), ("stack", 4, ((0,),)))

    def test_kinds(self):
        for kind in ("", "Depth", "depth ", "stacks", "return", "mark", "enter", None, True, 0, (), [], ("depth",)):
            for fact in ONE_OF_EACH:
                self.refuse((kind,) + fact[1:])

    def test_each_kind_needs_its_own_parts(self):
        for fact in ONE_OF_EACH:
            for other in ONE_OF_EACH:
                if len(fact) != len(other):
                    self.refuse((fact[0],) + other[1:])
        self.refuse(("stack", 0, 4), ("active", 4, (0,)), ("deeper", 4, 4, 10), ("depth", 4, 3, -1))

    def test_bool_in_the_place_of_an_integer(self):
        for value in (True, False):
            self.refuse(("depth", value, 0, 1), ("depth", 4, value, 1), ("depth", 4, 0, value))
            for kind in FRAME_KINDS:
                self.refuse((kind, value, 4), (kind, 0, value))
            self.refuse(("returns", value, 4, 0, 1), ("returns", 0, value, 0, 1))
            self.refuse(("returns", 0, 4, value, 1), ("returns", 0, 4, 0, value))
            self.refuse(("deeper", value, 4, 0), ("deeper", 4, value, 0), ("deeper", 4, 3, value))
            self.refuse(("stack", value, ()), ("stack", 4, (value,)), ("stack", 4, (0, value)), ("stack", 4, value))

    def test_other_values_in_the_place_of_a_part(self):
        for fact in ONE_OF_EACH:
            for at in range(1, len(fact)):
                for value in (None, "", "0", "depth", [], [0], ((),), (None,), ("0",), ([],), LARGE, -LARGE):
                    self.refuse(fact[:at] + (value,) + fact[at + 1 :])
                if fact[0] != "stack":
                    self.refuse(fact[:at] + ((),) + fact[at + 1 :], fact[:at] + ((0,),) + fact[at + 1 :])

    def test_odd_values(self):
        self.refuse(*ODD_VALUES)
        self.refuse(*ODD_VALUES, trace=())
        self.refuse(*NO_FACTS)


class Bounds(FactCase):
    def test_depth(self):
        self.accept(("depth", 0, 0, 0), ("depth", 5, 0, 0), ("depth", 5, 10, 10), ("depth", 5, 0, 10), ("depth", 0, 9, 10))
        self.refuse(("depth", -1, 0, 0), ("depth", 6, 0, 0))
        self.refuse(("depth", 5, -1, 0), ("depth", 5, 1, 0), ("depth", 5, 10, 9), ("depth", 5, 0, 11), ("depth", 5, 11, 11))
        self.refuse(("depth", 5, -1, -1), ("depth", 5, 0, -1))

    def test_depth_of_an_empty_trace(self):
        self.accept(("depth", 0, 0, 0), ("depth", 0, 1, 2), trace=())
        self.refuse(("depth", 1, 0, 0), ("depth", -1, 0, 0), trace=())

    def test_frame_and_moment(self):
        for kind in FRAME_KINDS:
            for frame, at in ((0, 0), (1, 1), (2, 2), (3, 4)):
                self.accept(*[(kind, frame, moment) for moment in range(at + 1, 6)])
                self.refuse(*[(kind, frame, moment) for moment in range(-1, at + 1)])
                self.refuse((kind, frame, 6), (kind, frame, 25))
            self.refuse((kind, -1, 5), (kind, 4, 5), (kind, 10, 5), (kind, 4, 6), (kind, 3, 4))

    def test_frame_of_a_trace_without_frames(self):
        for kind in FRAME_KINDS:
            self.refuse((kind, 0, 0), trace=())
            self.refuse((kind, 0, 0), (kind, 0, 1), (kind, -1, 1), trace=(MARK,))

    def test_frame_of_a_tail_call(self):
        for kind in FRAME_KINDS:
            self.accept((kind, 1, 3), (kind, 0, 3), trace=(ENTER, MARK, ("tail", "g")))
            self.refuse((kind, 1, 2), trace=(ENTER, MARK, ("tail", "g")))

    def test_returns(self):
        self.accept(("returns", 0, 1, 0, 0), ("returns", 0, 5, 0, 10), ("returns", 4, 5, 10, 10), ("returns", 2, 3, 9, 10))
        self.refuse(("returns", 0, 0, 0, 0), ("returns", 1, 0, 0, 0), ("returns", 5, 5, 0, 0), ("returns", 5, 4, 0, 1))
        self.refuse(("returns", -1, 5, 0, 0), ("returns", 0, 6, 0, 0), ("returns", 6, 7, 0, 0), ("returns", -2, -1, 0, 0))
        self.refuse(("returns", 0, 5, -1, 0), ("returns", 0, 5, 1, 0), ("returns", 0, 5, 0, 11), ("returns", 0, 5, 11, 11))
        self.refuse(("returns", 0, 1, 0, 0), trace=())

    def test_deeper(self):
        self.accept(("deeper", 0, 5, -10), ("deeper", 5, 0, 10), ("deeper", 1, 2, 0), ("deeper", 2, 1, 0))
        self.refuse(("deeper", 0, 5, -11), ("deeper", 5, 0, 11), ("deeper", 0, 0, 0), ("deeper", 5, 5, -1))
        self.refuse(("deeper", -1, 5, 0), ("deeper", 5, -1, 0), ("deeper", 6, 5, 0), ("deeper", 5, 6, 0))
        self.refuse(("deeper", 0, 1, 0), trace=())

    def test_stack(self):
        self.accept(("stack", 0, ()), ("stack", 5, ()), ("stack", 5, (0, 1, 2, 3)), ("stack", 5, (1, 3)), ("stack", 5, (3,)))
        self.refuse(("stack", -1, ()), ("stack", 6, ()))
        self.refuse(("stack", 5, (1, 0)), ("stack", 5, (0, 0)), ("stack", 5, (0, 2, 1)), ("stack", 5, (3, 3)))
        self.refuse(("stack", 5, (-1,)), ("stack", 5, (-1, 0)), ("stack", 5, (4,)), ("stack", 5, (0, 4)))
        self.refuse(("stack", 5, (0,) * 1500), ("stack", 5, tuple(range(1500))))

    def test_stack_of_frames_that_are_not_created_yet(self):
        self.accept(("stack", 1, (0,)), ("stack", 2, (0, 1)), ("stack", 3, (2,)), ("stack", 4, (0, 2)), ("stack", 5, (3,)))
        self.refuse(("stack", 0, (0,)), ("stack", 1, (1,)), ("stack", 1, (0, 1)), ("stack", 2, (2,)), ("stack", 4, (3,)))

    def test_stack_of_an_empty_trace(self):
        self.accept(("stack", 0, ()), trace=())
        self.refuse(("stack", 0, (0,)), ("stack", 1, ()), ("stack", 0, None), trace=())

    def test_the_largest_trace(self):
        trace = (ENTER,) * 10 + (MARK,) * 14
        self.accept(("stack", 24, tuple(range(10))), ("active", 9, 24), ("depth", 24, 10, 10), trace=trace)
        self.accept(("returns", 0, 24, 10, 10), ("deeper", 24, 0, 10), trace=trace)
        self.refuse(("stack", 25, ()), ("active", 10, 24), ("active", 9, 9), ("depth", 25, 0, 0), trace=trace)


def by_stacks(fact, reached, returned):
    """Whether a fact holds, by the results of stacks and totals."""
    kind, *parts = fact
    depths = [len(stack) for stack in reached]
    return {
        "depth": lambda k, low, high: low <= depths[k] <= high,
        "active": lambda i, k: i in reached[k],
        "returned": lambda i, k: i not in reached[k],
        "innermost": lambda i, k: reached[k] != () and reached[k][-1] == i,
        "returns": lambda j, k, low, high: low <= returned[k] - returned[j] <= high,
        "deeper": lambda j, k, by: depths[j] >= depths[k] + by,
        "stack": lambda k, stack: reached[k] == stack,
    }[kind](*parts)


class Holding(unittest.TestCase):
    def check(self, told, *facts):
        for fact in facts:
            with self.subTest(fact):
                self.assertIs(holds(T, FULL, fact), told)

    def test_worked_by_hand(self):
        # The stacks are (), (0,), (0, 1), (0, 1), (0,) and (); the totals are 0, 0, 0, 1, 2 and 4.
        self.check(True, ("depth", 2, 2, 2), ("depth", 2, 0, 2), ("depth", 2, 2, 9), ("depth", 0, 0, 0))
        self.check(False, ("depth", 2, 0, 1), ("depth", 2, 3, 10), ("depth", 5, 1, 10))
        self.check(True, ("active", 1, 3), ("active", 0, 4), ("active", 0, 1))
        self.check(False, ("active", 2, 3), ("active", 1, 4), ("active", 3, 5), ("active", 0, 5))
        self.check(True, ("returned", 2, 3), ("returned", 1, 4), ("returned", 3, 5), ("returned", 0, 5))
        self.check(False, ("returned", 1, 3), ("returned", 0, 4), ("returned", 0, 1))
        self.check(True, ("innermost", 0, 1), ("innermost", 1, 2), ("innermost", 1, 3), ("innermost", 0, 4))
        self.check(False, ("innermost", 0, 2), ("innermost", 0, 3), ("innermost", 2, 3), ("innermost", 0, 5))
        self.check(True, ("returns", 2, 3, 1, 1), ("returns", 0, 5, 4, 4), ("returns", 3, 5, 0, 3), ("returns", 0, 2, 0, 0))
        self.check(False, ("returns", 2, 3, 0, 0), ("returns", 2, 3, 2, 10), ("returns", 0, 5, 0, 3))
        self.check(True, ("deeper", 2, 0, 2), ("deeper", 0, 2, -2), ("deeper", 3, 2, 0), ("deeper", 5, 3, -3))
        self.check(False, ("deeper", 2, 0, 3), ("deeper", 0, 2, -1), ("deeper", 3, 2, 1))
        self.check(True, ("stack", 0, ()), ("stack", 3, (0, 1)), ("stack", 4, (0,)), ("stack", 5, ()))
        self.check(False, ("stack", 3, (0,)), ("stack", 3, (0, 1, 2)), ("stack", 3, (1,)), ("stack", 4, ()), ("stack", 5, (0,)))

    def compare(self, trace, completion, known, facts):
        reached = stacks(trace, completion)
        returned = totals(trace, completion)
        for fact in facts:
            told = holds(trace, completion, fact)
            self.assertIs(told, by_stacks(fact, reached, returned), (trace, completion, fact))
            self.assertIs(told, true(trace, known, fact), (trace, completion, fact))

    def test_all_facts_in_all_completions_of_small_traces(self):
        for length in range(4):
            for trace in small_traces(length):
                facts = all_facts(trace, (0, 1, 2, 10))
                for row, known in all_completions(trace):
                    self.compare(trace, row, known, facts)

    def test_all_facts_in_the_completions_of_the_example(self):
        facts = all_facts(T, (0, 1, 2, 3, 4, 10))
        for row, known in all_completions(T):
            self.compare(T, row, known, facts)

    def test_long_traces(self):
        for trace, completion in random_pairs(21, 40):
            reached = stacks(trace, completion)
            for moment, stack in enumerate(reached):
                self.assertIs(holds(trace, completion, ("stack", moment, stack)), True)
                self.assertIs(holds(trace, completion, ("depth", moment, len(stack), len(stack))), True)
                for frame in range(frames_before(trace, moment)):
                    told = [holds(trace, completion, (kind, frame, moment)) for kind in FRAME_KINDS]
                    self.assertEqual(told, [frame in stack, frame not in stack, stack[-1:] == (frame,)])


class Errors(unittest.TestCase):
    def test_invalid_trace_comes_first(self):
        for trace in [value for value in ODD_VALUES if value != ()] + [list(T), (MARK,) * 25, (ENTER,) * 11]:
            for value in ONE_OF_EACH[:1] + (None, [], ()):
                with self.assertRaises(InvalidTrace):
                    is_fact(trace, value)
                for completion in (FULL, None, [0]):
                    with self.assertRaises(InvalidTrace):
                        holds(trace, completion, value)

    def test_invalid_completion_comes_second(self):
        for completion in ODD_VALUES + [list(FULL), (0,) * 6, FULL[:5], FULL + (0,), (False,) + FULL[1:]]:
            for value in ONE_OF_EACH[:1] + (None, [], ()):
                with self.assertRaises(InvalidCompletion):
                    holds(T, completion, value)

    def test_invalid_fact_comes_last(self):
        for value in NO_FACTS:
            with self.subTest(repr(value)[:60]), self.assertRaises(InvalidFact):
                holds(T, FULL, value)


class GeneralRules(unittest.TestCase):
    def test_arguments_are_not_changed(self):
        for value in NO_FACTS:
            kept = copy.deepcopy(value)
            is_fact(T, value)
            with self.assertRaises(InvalidFact):
                holds(T, FULL, value)
            self.assertEqual(value, kept)

    def test_renamed_functions_change_nothing(self):
        renamed = tuple((kind, "x") if kind == "enter" else (kind, frame) for kind, frame in T)
        for fact in all_facts(T, (0, 1, 2)):
            self.assertIs(is_fact(renamed, fact), True)
            self.assertIs(holds(renamed, FULL, fact), holds(T, FULL, fact))


if __name__ == "__main__":
    unittest.main()
