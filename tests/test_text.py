import unittest
from random import Random

from reference import ODD_VALUES, T, all_completions, random_pair, random_pairs, small_traces, work

from lostexits.errors import InvalidCompletion, InvalidText, InvalidTrace
from lostexits.text import from_text, to_text

ENTER = ("enter", "f")
TAIL = ("tail", "g")
MARK = ("mark",)
FULL = (0, 0, 0, 1, 0, 2)
ALL_KINDS = (ENTER, ENTER, TAIL, ENTER, ("catch", 2), ("exit", 2), MARK, ENTER, MARK)


class Examples(unittest.TestCase):
    def test_to_text(self):
        self.assertEqual(to_text((ENTER, MARK), (0, 1, 0)), "enter f\nlost 1\nmark\n")

    def test_from_text(self):
        with self.assertRaises(InvalidText) as caught:
            from_text("enter f\nlost 2\n")
        self.assertEqual(caught.exception.line, 2)


class Lines(unittest.TestCase):
    def check(self, trace, completion, text):
        self.assertEqual(to_text(trace, completion), text)
        found = from_text(text)
        self.assertEqual(found, (trace, completion))
        self.assertEqual([type(part) for part in found], [tuple, tuple])
        self.assertIs(type(found), tuple)

    def test_empty_text(self):
        self.check((), (0,), "")

    def test_each_kind(self):
        self.check((MARK,), (0, 0), "mark\n")
        self.check((ENTER,), (0, 0), "enter f\n")
        self.check((ENTER, TAIL), (0, 0, 0), "enter f\ntail g\n")
        self.check((ENTER, ("exit", 0)), (0, 0, 0), "enter f\nexit 0\n")
        self.check((ENTER, ("catch", 0)), (0, 0, 0), "enter f\ncatch 0\n")
        self.check((ENTER,), (0, 1), "enter f\nlost 1\n")

    def test_all_kinds_together(self):
        text = "enter f\nenter f\ntail g\nenter f\ncatch 2\nexit 2\nmark\nenter f\nlost 1\nmark\nlost 1\n"
        self.check(ALL_KINDS, (0, 0, 0, 0, 0, 0, 0, 0, 1, 1), text)

    def test_the_trace_of_the_examples(self):
        text = "enter main\nenter load\nenter parse\nlost 1\nexit 1\nenter save\nlost 2\n"
        self.check(T, FULL, text)

    def test_names_like_the_words_of_lines(self):
        trace = (("enter", "mark"), ("enter", "lost"), ("tail", "enter"), ("tail", "tail"))
        self.check(trace, (0,) * 5, "enter mark\nenter lost\ntail enter\ntail tail\n")

    def test_numbers_of_two_digits(self):
        self.check((ENTER,) * 10, (0,) * 10 + (10,), "enter f\n" * 10 + "lost 10\n")

    def test_longest_names(self):
        self.check((("enter", "abcdefgh"), ("tail", "z")), (0, 0, 0), "enter abcdefgh\ntail z\n")

    def test_longest_traces(self):
        self.check((MARK,) * 24, (0,) * 25, "mark\n" * 24)
        many = (("enter", "abcdefgh"),) * 10 + (MARK,) * 14
        text = "enter abcdefgh\n" * 10 + "lost 1\n" + "mark\nlost 1\n" * 8 + "mark\n" * 6 + "lost 1\n"
        self.check(many, (0,) * 10 + (1,) * 9 + (0,) * 5 + (1,), text)
        self.check((ENTER,) + (("catch", 0),) * 23, (0,) * 24 + (1,), "enter f\n" + "catch 0\n" * 23 + "lost 1\n")


class ThereAndBack(unittest.TestCase):
    def test_all_completions_of_small_traces(self):
        for length in range(5):
            for trace in small_traces(length):
                for row, known in all_completions(trace):
                    self.assertEqual(from_text(to_text(trace, row)), (trace, row))

    def test_long_traces(self):
        for trace, completion in random_pairs(11, 300):
            self.assertEqual(from_text(to_text(trace, completion)), (trace, completion))

    def test_traces_of_24_events(self):
        chance = Random(12)
        for _ in range(100):
            trace, completion = random_pair(chance, 24)
            text = to_text(trace, completion)
            self.assertEqual(from_text(text), (trace, completion))
            self.assertEqual(text.count("\n"), 24 + sum(1 for unseen in completion if unseen))

    def test_every_beginning_by_lines_is_a_text(self):
        for trace, completion in random_pairs(13, 40):
            lines = to_text(trace, completion).splitlines(keepends=True)
            for many in range(len(lines)):
                beginning = "".join(lines[:many])
                self.assertEqual(to_text(*from_text(beginning)), beginning)


class WrongText(unittest.TestCase):
    def wrong(self, line, *texts):
        for text in texts:
            with self.subTest(repr(text)[:80]):
                with self.assertRaises(InvalidText) as caught:
                    from_text(text)
                self.assertEqual(caught.exception.line, line)

    def test_not_a_string(self):
        self.wrong(0, *[value for value in ODD_VALUES if not isinstance(value, str)])
        self.wrong(0, b"mark\n", ["mark\n"], ("mark\n",), T, (T, FULL))

    def test_no_such_line(self):
        self.wrong(1, "x\n", "enters f\n", "Enter f\n", "MARK\n", "return 1\n", "f\n", "enter\n", "lost\n", "#\n")
        self.wrong(2, "enter f\nexit\n", "enter f\ncatch\n", "enter f\ntail\n", "mark\nexit0\n", "mark\nmarks\n")
        self.wrong(3, "enter f\nmark\nenter g h\n", "enter f\nmark\nmark 0\n", "enter f\nmark\nexit 0 0\n")
        self.wrong(2, "enter f\nexit f\n", "enter f\nlost f\n", "enter f\ncatch main\n", "enter f\nenter 0\n")

    def test_strings_of_any_length(self):
        self.wrong(1, "a" * 1000, " " * 1000, "\n" * 1000, "enter " + "a" * 994, "lost " + "1" * 995)
        self.wrong(2, "enter f\nlost " + "1" * 980 + "\n", "enter f\nexit " + "0" * 980 + "\n")
        self.wrong(2, "enter f\nexit 1" + "0" * 6000 + "\n", "mark\nenter " + "a" * 6000 + "\n")

    def test_leading_zero(self):
        self.wrong(2, "enter f\nlost 01\n", "enter f\nexit 00\n", "enter f\ncatch 00\n", "enter f\nlost 001\nmark\n")
        self.wrong(11, "enter f\n" * 10 + "lost 010\n")

    def test_signs_and_other_digits(self):
        for number in ("+1", "-1", "1.0", "0x1", "1_0", "\u0661", "\u00b9", "\uff11", "one", "True", "None", ""):
            self.wrong(3, f"enter f\nenter f\nlost {number}\n", f"enter f\nenter f\nexit {number}\n")
            self.wrong(3, f"enter f\nenter f\ncatch {number}\n")
        self.wrong(2, "enter f\nexit -0\n", "enter f\ncatch +0\n")

    def test_spaces(self):
        self.wrong(1, "enter  f\n", " enter f\n", "enter f \n", "enter\tf\n", "mark \n", " mark\n", "enter \n", " \n")
        for line in ("tail g", "exit 0", "catch 0", "lost 1"):
            self.wrong(2, f"enter f\n{line} \n", f"enter f\n {line}\n", f"enter f\n{line.replace(' ', '  ')}\n")
            self.wrong(2, f"enter f\n{line.replace(' ', '')}\n", f"enter f\n{line.replace(' ', chr(160))}\n")
            self.wrong(2, f"enter f\n{line}\t\n", f"enter f\n{line.replace(' ', chr(9))}\n")

    def test_other_ends_of_lines(self):
        for end in ("\r\n", "\n\r", "\r", "\x0b", "\x0c", "\x1c", "\x85", "\u2028", "\u2029", ";", "\x00"):
            told = 2 if end == "\n\r" else 1
            self.wrong(told, f"mark{end}mark\n", f"enter f{end}mark\n")
        self.wrong(2, "enter f\nexit 0\r\n", "enter f\nlost 1\r\nmark\n", "enter f\ntail g\x0b\n")

    def test_names(self):
        self.wrong(1, "enter abcdefghi\n", "enter F\n", "enter f1\n", "enter \u00e9\n", "enter f_g\n")
        self.wrong(2, "enter f\ntail abcdefghi\n", "enter f\ntail G\n", "enter f\ntail \u00e9\nmark\n")

    def test_eleventh_frame(self):
        self.wrong(11, "enter f\n" * 11, "enter f\n" * 10 + "tail g\n", "enter f\n" * 12)
        self.wrong(12, "enter f\n" * 10 + "lost 5\nenter f\n")

    def test_25th_event(self):
        self.wrong(25, "mark\n" * 25, "mark\n" * 30, "enter f\n" + "mark\n" * 23 + "exit 0\n")
        self.wrong(26, "enter f\n" + "mark\n" * 23 + "lost 1\nmark\n")

    def test_lost_zero(self):
        self.wrong(1, "lost 0\n", "lost 0\nmark\n")
        self.wrong(2, "enter f\nlost 0\n", "enter f\nlost 0\nmark\n")

    def test_two_lost_lines(self):
        self.wrong(4, "enter f\nenter f\nlost 1\nlost 1\n", "enter f\nenter f\nlost 1\nlost 1\nmark\n")
        self.wrong(4, "enter f\nenter f\nlost 1\nlost 0\n")
        self.assertEqual(from_text("enter f\nenter f\nlost 1\nmark\nlost 1\n")[1], (0, 0, 1, 1))

    def test_more_lost_than_active(self):
        self.wrong(1, "lost 1\n", "lost 1\nmark\n", "lost 10\n")
        self.wrong(2, "enter f\nlost 2\n", "enter f\nlost 2\nmark\n", "mark\nlost 1\n", "enter f\nlost 11\n")
        self.wrong(3, "enter f\nexit 0\nlost 1\n")
        self.wrong(4, "enter f\nlost 1\nmark\nlost 1\n")
        self.wrong(11, "enter f\n" * 10 + "lost 11\n")

    def test_impossible_exit(self):
        self.wrong(1, "exit 0\n")
        self.wrong(2, "enter f\nexit 1\n", "enter f\nexit 10\n", "enter f\nexit 9\nmark\n")
        self.wrong(3, "enter f\nenter f\nexit 0\n", "enter f\nexit 0\nexit 0\n", "enter f\ntail g\nexit 0\n")
        self.wrong(3, "enter f\nlost 1\nexit 0\n")
        self.wrong(4, "enter f\nenter f\nlost 1\nexit 1\n")

    def test_impossible_catch(self):
        self.wrong(1, "catch 0\n")
        self.wrong(2, "enter f\ncatch 1\n")
        self.wrong(3, "enter f\nlost 1\ncatch 0\n", "enter f\nexit 0\ncatch 0\n", "enter f\ntail g\ncatch 0\n")
        self.wrong(4, "enter f\nenter f\nlost 1\ncatch 1\n", "enter f\nenter f\ncatch 0\ncatch 1\n")

    def test_tail_call_without_an_active_frame(self):
        self.wrong(1, "tail f\n", "tail f\nenter f\n")
        self.wrong(3, "enter f\nlost 1\ntail g\n", "enter f\nexit 0\ntail g\n")

    def test_empty_line(self):
        self.wrong(1, "\n", "\nmark\n", "\n\n")
        self.wrong(2, "mark\n\n", "mark\n\nmark\n", "enter f\n\nlost 1\n")

    def test_last_line_without_a_line_feed(self):
        self.wrong(1, "mark", "enter f", "x", " ", "\r", "m")
        self.wrong(2, "enter f\nmark", "enter f\nlost 1", "enter f\nlost 2", "enter f\nx", "enter f\n ", "mark\nmar")

    def test_last_line_without_a_line_feed_behind_a_wrong_one(self):
        self.wrong(1, "x\nmark", "lost 1\nmark", "\nmark")
        self.wrong(2, "enter f\nlost 2\nmark", "enter f\nlost 2\nmark\nmark", "mark\nx\nx")

    def test_the_first_of_several_wrong_lines(self):
        self.wrong(2, "mark\nx\nx\n", "enter f\nexit 1\nlost 9\n", "enter f\nlost 0\nenter F\n")

    def test_wrong_lines_at_any_place(self):
        for trace, completion in random_pairs(14, 20):
            lines = to_text(trace, completion).splitlines(keepends=True)
            for at in range(len(lines) + 1):
                for wrong in ("\n", "x\n", "lost 0\n", "enter f g\n", "lost 11\n", "exit 10\n", "mark\r\n"):
                    self.wrong(at + 1, "".join(lines[:at] + [wrong] + lines[at:]))

    def test_one_line_removed_or_repeated(self):
        # The line that is told is the first one at which the text is not a beginning of a text any more.
        for trace, completion in random_pairs(15, 60):
            lines = to_text(trace, completion).splitlines(keepends=True)
            for at, line in enumerate(lines):
                for changed in (lines[:at] + lines[at + 1 :], lines[:at] + [line] + lines[at:]):
                    self.compare_by_lines(changed)

    def compare_by_lines(self, lines):
        try:
            self.assertEqual(to_text(*from_text("".join(lines))), "".join(lines))
            return
        except InvalidText as error:
            told = error.line
        from_text("".join(lines[: told - 1]))
        with self.assertRaises(InvalidText):
            from_text("".join(lines[:told]))


class Work(unittest.TestCase):
    """How much work from_text does, told by the number of calls that it makes, so that no clock is needed."""

    def calls(self, text):
        return work(from_text, text)

    def test_the_work_grows_with_the_number_of_lines(self):
        for line in ("mark\n", "enter f\ntail g\nlost 1\n", "enter abcdefgh\n", "enter f\nlost 1\nmark\n"):
            start = self.calls("")
            for many in (2, 4, 8, 16, 24):
                if self.created(line * many) <= 10:
                    each = self.calls(line) - start
                    # A line does not cost more because other lines are before it.
                    self.assertLessEqual(self.calls(line * many) - start, many * (each + 1))

    def created(self, text):
        return text.count("enter") + text.count("tail")

    def test_the_text_that_took_longest(self):
        exits = "".join(f"exit {frame}\n" for frame in reversed(range(1, 10)))
        text = "enter abcdefgh\n" * 10 + exits + "mark\n" * 4 + "lost 1\n"
        trace = (("enter", "abcdefgh"),) * 10 + tuple(("exit", frame) for frame in reversed(range(1, 10)))
        self.assertEqual(from_text(text), (trace + (MARK,) * 4, (0,) * 23 + (1,)))
        self.assertLess(self.calls(text), 25 * 24)

    def test_nothing_is_read_behind_the_first_wrong_line(self):
        self.assertEqual(self.calls("mark\nx\n" + "mark\n" * 100), self.calls("mark\nx\n"))


class Errors(unittest.TestCase):
    def test_invalid_trace_comes_first(self):
        for trace in ODD_VALUES:
            if trace == ():
                continue
            for completion in ODD_VALUES + [FULL]:
                with self.assertRaises(InvalidTrace):
                    to_text(trace, completion)

    def test_invalid_completion(self):
        for completion in ODD_VALUES + [list(FULL), (0,) * 6, FULL[:5], FULL + (0,), (False,) + FULL[1:]]:
            with self.subTest(repr(completion)[:60]), self.assertRaises(InvalidCompletion):
                to_text(T, completion)

    def test_equal_arguments_give_equal_results(self):
        self.assertEqual(to_text(T, FULL), to_text(tuple(list(T)), tuple(list(FULL))))
        self.assertEqual(from_text(to_text(T, FULL)), from_text(to_text(T, FULL)))


if __name__ == "__main__":
    unittest.main()
