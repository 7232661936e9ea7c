import copy
import unittest

from reference import ODD_VALUES, T

from lostexits.errors import InvalidTrace
from lostexits.traces import frames, is_trace

ENTER = ("enter", "f")
MARK = ("mark",)


class Examples(unittest.TestCase):
    def test_is_trace(self):
        self.assertIs(is_trace((("enter", "main"), ("exit", 1))), False)
        self.assertIs(is_trace(T), True)

    def test_frames(self):
        self.assertEqual(frames(T), [("main", 0), ("load", 1), ("parse", 2), ("save", 4)])


class Events(unittest.TestCase):
    def accept(self, *values):
        for value in values:
            with self.subTest(value):
                self.assertIs(is_trace(value), True)

    def refuse(self, *values):
        for value in values:
            with self.subTest(value):
                self.assertIs(is_trace(value), False)

    def test_each_kind(self):
        self.accept(
            (),
            (MARK,),
            (ENTER,),
            (ENTER, ("tail", "g")),
            (ENTER, ("exit", 0)),
            (ENTER, ("catch", 0)),
            (MARK, ENTER, MARK, ("tail", "g"), MARK, ("exit", 1), ("catch", 0), MARK),
        )

    def test_parts_too_many_or_too_few(self):
        self.refuse(
            ((),),
            (("enter",),),
            (("enter", "f", "g"),),
            (("enter", "f", 0),),
            (("mark", "f"),),
            (("mark", 0),),
            (("mark", None),),
            (("mark", ()),),
            (("mark", "f", 0),),
            (("mark", "mark", "mark"),),
            (ENTER, ("tail",)),
            (ENTER, ("tail", "f", "f")),
            (ENTER, ("exit",)),
            (ENTER, ("exit", 0, 0)),
            (ENTER, ("catch",)),
            (ENTER, ("catch", 0, 0)),
        )

    def test_other_kinds(self):
        for kind in ("", "Enter", "enter ", "lost", "return", "marks", None, 0, True, (), [], ("mark",), ["enter"]):
            self.refuse(((kind,),), (ENTER, (kind, "f")), (ENTER, (kind, 0)))

    def test_name_length(self):
        for kind in ("enter", "tail"):
            self.accept((ENTER, (kind, "a")), (ENTER, (kind, "abcdefgh")))
            self.refuse((ENTER, (kind, "")), (ENTER, (kind, "abcdefghi")), (ENTER, (kind, "a" * 1000)))

    def test_name_letters(self):
        self.accept((("enter", "az"),), (("enter", "qwzy"),))
        for name in ("A", "aB", "a1", "1", "a_b", "_", "a b", " a", "a\n", "\n", "`", "{", "a-", "\u00e9", "\u0430", "\u00aa"):
            self.refuse((("enter", name),), (ENTER, ("tail", name)))

    def test_name_of_another_kind(self):
        for name in (None, True, 0, 7, (), [], ("f",), ["f"], ("a", "b"), ["a", "b"]):
            self.refuse((("enter", name),), (ENTER, ("tail", name)))

    def test_tail_call_before_the_first_entry(self):
        self.refuse((("tail", "f"),), (MARK, ("tail", "f")), (("tail", "f"), ENTER))
        self.accept((ENTER, ("tail", "f")), (MARK, ENTER, MARK, ("tail", "f"), ("tail", "f")))

    def test_tail_call_without_an_active_frame_is_still_a_trace(self):
        self.accept((ENTER, ("exit", 0), ("tail", "f")))

    def test_frame_of_exit_and_catch(self):
        for kind in ("exit", "catch"):
            self.refuse(((kind, 0),), ((kind, 0), ENTER), (MARK, (kind, 0)))
            self.refuse((ENTER, (kind, 1)), (ENTER, (kind, 1), ENTER), (ENTER, MARK, (kind, 1)))
            self.refuse((ENTER, (kind, -1)), (ENTER, (kind, 10**40 - 1)), (ENTER, (kind, -(10**40 - 1))))
            self.accept((ENTER, ENTER, (kind, 1)), (ENTER, ("tail", "g"), (kind, 1)), (ENTER, ("tail", "g"), (kind, 0)))

    def test_frame_of_another_kind(self):
        for kind in ("exit", "catch"):
            for frame in (True, False, None, "", "0", "f", (), [], (0,), [0]):
                self.refuse((ENTER, ENTER, (kind, frame)))

    def test_trace_without_a_valid_completion(self):
        self.accept((ENTER, ("exit", 0), ("exit", 0)), (ENTER, ENTER, ("exit", 0), ("catch", 1)))


class Bounds(unittest.TestCase):
    def test_number_of_events(self):
        self.assertIs(is_trace((MARK,) * 24), True)
        self.assertIs(is_trace((MARK,) * 25), False)
        self.assertIs(is_trace((ENTER,) + (("exit", 0),) * 23), True)
        self.assertIs(is_trace((ENTER,) + (("exit", 0),) * 24), False)

    def test_number_of_frames(self):
        self.assertIs(is_trace((ENTER,) * 10), True)
        self.assertIs(is_trace((ENTER,) * 11), False)
        self.assertIs(is_trace((ENTER,) + (("tail", "g"),) * 9), True)
        self.assertIs(is_trace((ENTER,) + (("tail", "g"),) * 10), False)
        self.assertIs(is_trace((ENTER,) * 10 + (("exit", 9),) * 14), True)
        self.assertIs(is_trace((ENTER,) * 10 + (("exit", 10),)), False)
        self.assertIs(is_trace((ENTER,) * 5 + (MARK,) + (("tail", "g"),) * 6), False)

    def test_both_at_once(self):
        self.assertIs(is_trace((ENTER,) * 10 + (MARK,) * 14), True)
        self.assertIs(is_trace((ENTER,) * 10 + (MARK,) * 15), False)
        self.assertIs(is_trace((ENTER,) * 11 + (MARK,) * 13), False)


class OtherValues(unittest.TestCase):
    def test_odd_values(self):
        for value in ODD_VALUES:
            with self.subTest(repr(value)[:40]):
                self.assertIs(is_trace(value), value == ())

    def test_lists_in_the_place_of_tuples(self):
        self.assertIs(is_trace(list(T)), False)
        self.assertIs(is_trace([]), False)
        self.assertIs(is_trace((["enter", "main"],)), False)
        self.assertIs(is_trace(T + (["mark"],)), False)
        self.assertIs(is_trace((T,)), False)

    def test_wrong_event_at_any_place(self):
        for at in range(len(T) + 1):
            for event in ODD_VALUES:
                trace = T[:at] + (event,) + T[at:]
                with self.subTest(at=at, event=repr(event)[:40]):
                    self.assertIs(is_trace(trace), event in (("mark",), ("enter", "main")))


class Frames(unittest.TestCase):
    def test_empty_trace(self):
        self.assertEqual(frames(()), [])

    def test_trace_without_frames(self):
        self.assertEqual(frames((MARK, MARK)), [])

    def test_tail_calls_and_marks(self):
        trace = (MARK, ("enter", "a"), ("catch", 0), ("tail", "b"), ("exit", 1), ("enter", "a"))
        self.assertEqual(frames(trace), [("a", 1), ("b", 3), ("a", 5)])

    def test_trace_without_a_valid_completion(self):
        self.assertEqual(frames((ENTER, ("exit", 0), ("exit", 0), ENTER)), [("f", 0), ("f", 3)])

    def test_ten_frames(self):
        trace = (ENTER,) + (MARK,) * 14 + (("tail", "g"),) * 9
        self.assertEqual(frames(trace), [("f", 0)] + [("g", at) for at in range(15, 24)])

    def test_kinds_of_values(self):
        result = frames(T)
        self.assertIsInstance(result, list)
        for pair in result:
            self.assertIsInstance(pair, tuple)

    def test_invalid_trace(self):
        for value in ODD_VALUES:
            if value == ():
                continue
            with self.subTest(repr(value)[:40]), self.assertRaises(InvalidTrace):
                frames(value)
        for value in (list(T), (MARK,) * 25, (ENTER,) * 11, (("tail", "f"),), (ENTER, ("exit", 1))):
            with self.subTest(value), self.assertRaises(InvalidTrace):
                frames(value)


class GeneralRules(unittest.TestCase):
    def test_equal_arguments_give_an_equal_new_list(self):
        first = frames(T)
        second = frames(tuple(list(T)))
        self.assertEqual(first, second)
        self.assertIsNot(first, second)
        first.clear()
        self.assertEqual(frames(T), second)

    def test_arguments_are_not_changed(self):
        for value in ODD_VALUES:
            kept = copy.deepcopy(value)
            is_trace(value)
            self.assertEqual(value, kept)

    def test_renamed_functions_change_only_names(self):
        renamed = tuple((kind, "x") if kind == "enter" else (kind, frame) for kind, frame in T)
        self.assertEqual(frames(renamed), [("x", at) for name, at in frames(T)])


if __name__ == "__main__":
    unittest.main()
