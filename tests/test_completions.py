import copy
import unittest

from reference import ODD_VALUES, WITHOUT_COMPLETION, T, meaning, random_pairs, rows, small_traces

from lostexits.completions import callers, ends, from_totals, is_completion, stacks, totals
from lostexits.errors import InvalidCompletion, InvalidTrace

ENTER = ("enter", "f")
TAIL = ("tail", "g")
MARK = ("mark",)
FULL = (0, 0, 0, 1, 0, 2)
LISTING = (stacks, totals, callers, ends)
NOT_TRACES = [value for value in ODD_VALUES if value != ()] + [
    list(T),
    T + (("exit", 4),),
    T + (("catch", True),),
    T + (("mark", 0),),
    (TAIL,),
    (MARK,) * 25,
    (ENTER,) * 11,
]


class Examples(unittest.TestCase):
    def test_is_completion(self):
        self.assertIs(is_completion(T, (0, 0, 0, 0, 0, 0)), False)

    def test_stacks(self):
        self.assertEqual(stacks(T, FULL), [(), (0,), (0, 1), (0, 1), (0,), ()])

    def test_totals(self):
        self.assertEqual(totals(T, FULL), [0, 0, 0, 1, 2, 4])

    def test_from_totals(self):
        self.assertEqual(from_totals(T, [0, 1, 1, 2, 3, 3]), (0, 1, 0, 1, 0, 0))

    def test_callers(self):
        self.assertEqual(callers(T, FULL), [None, 0, 1, 0])

    def test_ends(self):
        self.assertEqual(ends(T, (0, 0, 0, 1, 0, 1)), [None, 4, 3, 5])

    def test_all_completions_of_the_trace(self):
        valid = [row for row in rows(6, 4) if is_completion(T, row)]
        self.assertEqual(
            valid,
            [
                (0, 0, 0, 1, 0, 0),
                (0, 0, 0, 1, 0, 1),
                (0, 0, 0, 1, 0, 2),
                (0, 0, 0, 1, 1, 0),
                (0, 0, 0, 1, 1, 1),
                (0, 1, 0, 1, 0, 0),
                (0, 1, 0, 1, 0, 1),
            ],
        )


class WorkedByHand(unittest.TestCase):
    def check(self, trace, completion, told):
        self.assertIs(is_completion(trace, completion), True)
        self.assertEqual(stacks(trace, completion), told[0])
        self.assertEqual(totals(trace, completion), told[1])
        self.assertEqual(callers(trace, completion), told[2])
        self.assertEqual(ends(trace, completion), told[3])
        self.assertEqual(from_totals(trace, told[1]), completion)

    def test_empty_trace(self):
        self.check((), (0,), ([()], [0], [], []))

    def test_marks(self):
        self.check((MARK, MARK), (0, 0, 0), ([(), (), ()], [0, 0, 0], [], []))

    def test_tail_calls_and_a_catch(self):
        trace = (ENTER, ENTER, TAIL, ("catch", 0), MARK, TAIL)
        told = (
            [(), (0,), (0, 1), (0, 2), (0,), (0,), (3,)],
            [0, 0, 0, 1, 2, 2, 3],
            [None, 0, 0, None],
            [6, 3, 4, None],
        )
        self.check(trace, (0,) * 7, told)

    def test_tail_calls_after_unseen_returns(self):
        trace = (ENTER, ENTER, TAIL, TAIL)
        told = ([(), (0,), (0,), (2,), ()], [0, 0, 1, 2, 4], [None, 0, None, None], [3, 2, 4, 4])
        self.check(trace, (0, 0, 1, 0, 1), told)

    def test_catch_of_a_frame_below_two_others(self):
        trace = (ENTER, ENTER, ENTER, ENTER, ("catch", 1), ("exit", 1), ENTER)
        told = (
            [(), (0,), (0, 1), (0, 1, 2), (0, 1, 2, 3), (0, 1), (0,), (0, 4)],
            [0, 0, 0, 0, 0, 2, 3, 3],
            [None, 0, 1, 2, 0],
            [None, 6, 5, 5, None],
        )
        self.check(trace, (0,) * 8, told)

    def test_the_same_catch_after_unseen_returns(self):
        trace = (ENTER, ENTER, ENTER, ENTER, ("catch", 1), ("exit", 1), ENTER)
        told = (
            [(), (0,), (0, 1), (0, 1), (0, 1, 3), (0, 1), (0,), ()],
            [0, 0, 0, 1, 1, 2, 3, 5],
            [None, 0, 1, 1, 0],
            [7, 6, 3, 5, 7],
        )
        self.check(trace, (0, 0, 0, 1, 0, 0, 0, 2), told)

    def test_catch_in_the_innermost_frame(self):
        told = ([(), (0,), (0,), ()], [0, 0, 0, 1], [None], [3])
        self.check((ENTER, ("catch", 0), MARK), (0, 0, 0, 1), told)

    def test_recorded_exits(self):
        trace = (ENTER, ("exit", 0), ENTER, ENTER, ("exit", 2), ("exit", 1))
        told = (
            [(), (0,), (), (1,), (1, 2), (1,), ()],
            [0, 0, 1, 1, 1, 2, 3],
            [None, None, 1],
            [2, 6, 5],
        )
        self.check(trace, (0,) * 7, told)

    def test_largest_trace(self):
        trace = (ENTER,) * 10 + (MARK,) * 14
        told = (
            [tuple(range(k)) for k in range(11)] + [(0,)] * 13 + [()],
            [0] * 11 + [9] * 13 + [10],
            [None, 0, 1, 2, 3, 4, 5, 6, 7, 8],
            [24] + [11] * 9,
        )
        self.check(trace, (0,) * 11 + (9,) + (0,) * 12 + (1,), told)


class Validity(unittest.TestCase):
    def accept(self, trace, *values):
        for value in values:
            with self.subTest(trace=trace, value=value):
                self.assertIs(is_completion(trace, value), True)

    def refuse(self, trace, *values):
        for value in values:
            with self.subTest(trace=trace, value=repr(value)[:60]):
                self.assertIs(is_completion(trace, value), False)

    def test_empty_trace(self):
        self.accept((), (0,))
        self.refuse((), (), (1,), (-1,), (0, 0))

    def test_mark(self):
        self.accept((MARK,), (0, 0))
        self.refuse((MARK,), (0, 1), (1, 0), (1, -1), (-1, 1), (0,), (0, 0, 0))

    def test_enter(self):
        self.accept((ENTER,), (0, 0), (0, 1))
        self.refuse((ENTER,), (0, 2), (0, -1), (1, 0))

    def test_tail(self):
        self.accept((ENTER, TAIL), (0, 0, 0), (0, 0, 1))
        self.refuse((ENTER, TAIL), (0, 1, 0), (0, 1, 1), (0, 0, 2))

    def test_exit(self):
        self.accept((ENTER, ("exit", 0)), (0, 0, 0))
        self.refuse((ENTER, ("exit", 0)), (0, 1, 0), (0, 0, 1))
        self.accept((ENTER, ENTER, ("exit", 0)), (0, 0, 1, 0))
        self.refuse((ENTER, ENTER, ("exit", 0)), (0, 0, 0, 0), (0, 1, 0, 0), (0, 0, 2, 0), (0, 1, 1, 0))
        self.accept((ENTER, ENTER, ("exit", 1)), (0, 0, 0, 0), (0, 0, 0, 1), (0, 1, 0, 0))

    def test_catch(self):
        self.accept((ENTER, ENTER, ("catch", 0)), (0, 0, 0, 0), (0, 0, 1, 0), (0, 0, 0, 1))
        self.refuse((ENTER, ENTER, ("catch", 0)), (0, 1, 0, 0), (0, 0, 2, 0), (0, 0, 0, 2))
        self.accept((ENTER, ENTER, ("catch", 1)), (0, 0, 0, 0), (0, 1, 0, 0), (0, 0, 0, 2))
        self.refuse((ENTER, ENTER, ("catch", 1)), (0, 0, 1, 0), (0, 1, 1, 0), (0, 1, 0, 2))

    def test_negative_and_large_numbers(self):
        large = 10**40 - 1
        for at in range(6):
            for number in (-1, -2, 5, large, -large):
                self.refuse(T, FULL[:at] + (number,) + FULL[at + 1 :])
        self.refuse(T, (0, 0, 0, 2, -1, 1), (0, 1, 1, 1, -1, 0))

    def test_bool_in_the_place_of_an_integer(self):
        self.refuse(T, (False, 0, 0, 1, 0, 2), (0, 0, 0, True, 0, 2), (False,) * 6)
        self.refuse((), (False,))

    def test_list_in_the_place_of_a_tuple(self):
        self.refuse(T, list(FULL))
        self.refuse((), [0])

    def test_other_numbers_of_moments(self):
        self.refuse(T, FULL[:5], FULL + (0,), FULL * 2, ())

    def test_other_values_in_the_place_of_a_number(self):
        for at in range(6):
            for value in (None, "", "0", (), [], (0,), [0], False):
                self.refuse(T, FULL[:at] + (value,) + FULL[at + 1 :])

    def test_odd_values(self):
        self.refuse(T, *ODD_VALUES)
        self.refuse((), *ODD_VALUES)

    def test_traces_without_a_valid_completion(self):
        for trace in WITHOUT_COMPLETION:
            for row in rows(len(trace) + 1, 2):
                self.assertIs(is_completion(trace, row), False)
                self.assertIsNone(from_totals(trace, list(row)))
                with self.assertRaises(InvalidCompletion):
                    stacks(trace, row)


class SecondCalculation(unittest.TestCase):
    def compare(self, trace, row):
        known = meaning(trace, row)
        self.assertIs(is_completion(trace, row), known is not None)
        if known is None:
            for function in LISTING:
                with self.assertRaises(InvalidCompletion):
                    function(trace, row)
            return
        self.assertEqual(stacks(trace, row), known.stacks)
        self.assertEqual(totals(trace, row), known.totals)
        self.assertEqual(callers(trace, row), known.callers)
        self.assertEqual(ends(trace, row), known.ends)
        self.assertEqual(from_totals(trace, known.totals), row)

    def test_all_small_traces(self):
        for length in range(4):
            for trace in small_traces(length):
                for row in rows(length + 1, length):
                    self.compare(trace, row)

    def test_all_small_lists_of_totals(self):
        for length in range(4):
            for trace in small_traces(length):
                found = {}
                for row in rows(length + 1, length):
                    known = meaning(trace, row)
                    if known is not None:
                        found[tuple(known.totals)] = row
                for row in rows(length + 1, length + 1):
                    self.assertEqual(from_totals(trace, list(row)), found.get(row))

    def test_long_traces(self):
        for trace, completion in random_pairs(4, 300):
            self.compare(trace, completion)

    def test_long_traces_with_one_number_changed(self):
        for trace, completion in random_pairs(5, 60):
            for at, number in enumerate(completion):
                self.compare(trace, completion[:at] + (number + 1,) + completion[at + 1 :])
                self.compare(trace, completion[:at] + (max(0, number - 1),) + completion[at + 1 :])

    def test_long_lists_of_totals_with_one_number_changed(self):
        for trace, completion in random_pairs(6, 60):
            known = meaning(trace, completion).totals
            for at, number in enumerate(known):
                for other in (number - 1, number + 1):
                    changed = known[:at] + [other] + known[at + 1 :]
                    found = from_totals(trace, changed)
                    if found is not None:
                        self.assertEqual(meaning(trace, found).totals, changed)


class FromTotals(unittest.TestCase):
    def test_returns_the_completion_again(self):
        for row in rows(6, 2):
            if is_completion(T, row):
                self.assertEqual(from_totals(T, totals(T, row)), row)

    def test_result_is_a_tuple_of_integers(self):
        result = from_totals(T, totals(T, FULL))
        self.assertIsInstance(result, tuple)
        self.assertEqual([type(number) for number in result], [int] * 6)

    def test_totals_of_no_valid_completion(self):
        for value in (
            [0, 0, 0, 0, 0, 0],
            [0, 0, 0, 0, 1, 1],
            [0, 0, 0, 1, 1, 1],
            [0, 0, 0, 1, 2, 5],
            [0, 0, 0, 1, 2, 1],
            [1, 1, 1, 2, 3, 4],
            [0, 2, 2, 2, 3, 3],
            [0, 1, 0, 1, 2, 2],
            [0, 0, 1, 1, 2, 2],
            [-1, 0, 0, 1, 2, 4],
            [0, 0, -1, 1, 2, 4],
            [0, 0, 0, 1, 2, 10**40 - 1],
            [0, 0, 0, 1, 2, -(10**40 - 1)],
        ):
            with self.subTest(value):
                self.assertIsNone(from_totals(T, value))

    def test_other_values(self):
        told = totals(T, FULL)
        for value in ODD_VALUES + [tuple(told), told[:5], told + [4], told * 2, [told], str(told)]:
            with self.subTest(repr(value)[:60]):
                self.assertIsNone(from_totals(T, value))

    def test_other_values_in_the_place_of_a_number(self):
        told = totals(T, FULL)
        for at in range(6):
            for value in (None, "", "0", (), [], [0], bool(told[at])):
                with self.subTest(at=at, value=value):
                    self.assertIsNone(from_totals(T, told[:at] + [value] + told[at + 1 :]))

    def test_empty_trace(self):
        self.assertEqual(from_totals((), [0]), (0,))
        for value in ([], [1], [-1], [False], [None], [0, 0], (0,), 0):
            self.assertIsNone(from_totals((), value))


class Errors(unittest.TestCase):
    def test_invalid_trace(self):
        for value in NOT_TRACES:
            for function in LISTING + (is_completion, from_totals):
                for other in (FULL, (0,), list(FULL), None, ()):
                    with self.subTest(function.__name__, value=repr(value)[:60]):
                        with self.assertRaises(InvalidTrace):
                            function(value, other)

    def test_invalid_completion(self):
        for value in ODD_VALUES + [list(FULL), FULL[:5], FULL + (0,), (0,) * 6, (False,) + FULL[1:]]:
            for function in LISTING:
                with self.subTest(function.__name__, value=repr(value)[:60]):
                    with self.assertRaises(InvalidCompletion):
                        function(T, value)

    def test_invalid_trace_comes_first(self):
        for trace in NOT_TRACES:
            for completion in ODD_VALUES:
                for function in LISTING:
                    with self.assertRaises(InvalidTrace):
                        function(trace, completion)


class GeneralRules(unittest.TestCase):
    def test_equal_arguments_give_an_equal_new_list(self):
        for function in LISTING:
            with self.subTest(function.__name__):
                first = function(T, FULL)
                second = function(tuple(list(T)), tuple(list(FULL)))
                self.assertIsInstance(first, list)
                self.assertEqual(first, second)
                self.assertIsNot(first, second)
                first.clear()
                self.assertEqual(function(T, FULL), second)

    def test_from_totals_gives_an_equal_result_again(self):
        self.assertEqual(from_totals(T, [0, 1, 1, 2, 3, 3]), from_totals(T, [0, 1, 1, 2, 3, 3]))

    def test_stacks_are_tuples(self):
        for stack in stacks(T, FULL):
            self.assertIsInstance(stack, tuple)

    def test_arguments_are_not_changed(self):
        for value in ODD_VALUES + [[0, 1, 1, 2, 3, 3], list(FULL)]:
            kept = copy.deepcopy(value)
            is_completion(T, value)
            from_totals(T, value)
            for function in LISTING:
                with self.assertRaises(InvalidCompletion):
                    function(T, value)
            self.assertEqual(value, kept)
            if not isinstance(value, tuple):
                with self.assertRaises(InvalidTrace):
                    is_completion(value, FULL)
                self.assertEqual(value, kept)

    def test_renamed_functions_change_nothing(self):
        renamed = tuple((kind, "x") if kind == "enter" else (kind, frame) for kind, frame in T)
        for function in LISTING:
            self.assertEqual(function(renamed, FULL), function(T, FULL))


if __name__ == "__main__":
    unittest.main()
