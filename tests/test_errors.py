import unittest

from lostexits import errors

PLAIN = (
    "InvalidTrace",
    "InvalidCompletion",
    "InvalidFact",
    "InvalidFacts",
    "InvalidFrame",
    "InvalidMoment",
    "InvalidNumber",
    "InvalidEvent",
    "CapacityError",
    "NothingToUndo",
)


class ErrorClasses(unittest.TestCase):
    def test_base_class(self):
        self.assertEqual(errors.TraceError.__bases__, (ValueError,))

    def test_direct_subclasses(self):
        for name in PLAIN + ("InvalidText", "Conflict"):
            with self.subTest(name):
                self.assertEqual(getattr(errors, name).__bases__, (errors.TraceError,))

    def test_no_other_classes(self):
        names = {name for name, value in vars(errors).items() if isinstance(value, type)}
        self.assertEqual(names, set(PLAIN) | {"TraceError", "InvalidText", "Conflict"})

    def test_message(self):
        for name in PLAIN + ("TraceError",):
            with self.subTest(name):
                self.assertEqual(str(getattr(errors, name)("why")), "why")

    def test_caught_as_trace_error_and_value_error(self):
        for base in (errors.TraceError, ValueError):
            for name in PLAIN:
                with self.subTest(name), self.assertRaises(base):
                    raise getattr(errors, name)("why")


class Attributes(unittest.TestCase):
    def test_line(self):
        for line in (0, 1, 25):
            self.assertEqual(errors.InvalidText(line).line, line)

    def test_derivation(self):
        lines = [(1, -1, ("fact", 0)), (0, -1, ("event", 0))]
        self.assertEqual(errors.Conflict(lines).derivation, [(1, -1, ("fact", 0)), (0, -1, ("event", 0))])

    def test_derivation_is_a_copy(self):
        lines = [(0, -1, ("event", 0))]
        error = errors.Conflict(lines)
        lines.clear()
        self.assertEqual(error.derivation, [(0, -1, ("event", 0))])
        error.derivation.clear()
        self.assertEqual(errors.Conflict(lines).derivation, [])

    def test_each_object_has_its_own(self):
        first = errors.InvalidText(1)
        second = errors.InvalidText(2)
        self.assertEqual((first.line, second.line), (1, 2))


if __name__ == "__main__":
    unittest.main()
