import copy
import unittest
from random import Random

from reference import (
    NOT_A_FACT,
    ODD_VALUES,
    T,
    all_completions,
    all_facts,
    created,
    derives,
    extreme,
    large_trace,
    meaning,
    near_facts,
    random_pair,
    satisfying,
    small_traces,
    told_status,
    true,
)

from lostexits.derivations import is_derivation
from lostexits.errors import (
    CapacityError,
    Conflict,
    InvalidEvent,
    InvalidFact,
    NothingToUndo,
    TraceError,
)
from lostexits.monitor import Monitor
from lostexits.queries import status
from lostexits.solving import most_returned
from lostexits.traces import is_trace

ENTER = ("enter", "f")
TAIL = ("tail", "g")
MARK = ("mark",)
EXIT = ("exit", 0)
LARGE = 10**40 - 1
# None of these is an event, whatever the events so far are.
NO_EVENTS = [value for value in ODD_VALUES if value not in (("mark",), ("enter", "main"))] + [
    "mark",
    ["mark"],
    ["enter", "f"],
    ("mark", None),
    ("Mark",),
    ("enter",),
    ("enter", "F"),
    ("enter", ""),
    ("enter", "abcdefghi"),
    ("enter", "\u00e9"),
    ("enter", None),
    ("enter", 0),
    ("enter", ["f"]),
    ("enter", "f", "f"),
    ("tail",),
    ("tail", "G"),
    ("tail", 0),
    ("exit",),
    ("exit", -1),
    ("exit", 10),
    ("exit", True),
    ("exit", False),
    ("exit", "0"),
    ("exit", None),
    ("exit", (0,)),
    ("exit", LARGE),
    ("catch", -1),
    ("catch", 10),
    ("catch", False),
    ("catch", [0]),
    ("catch", 0, 0),
    (ENTER,),
    (MARK,),
    T,
]


def monitor_of(trace, facts=()):
    found = Monitor()
    for event in trace:
        found.append(event)
    for fact in facts:
        found.observe(fact)
    return found


class MonitorCase(unittest.TestCase):
    def check(self, monitor, trace, facts):
        """Check all that a monitor tells."""
        self.assertEqual(monitor.trace(), trace)
        self.assertEqual(monitor.facts(), facts)
        self.assertIs(type(monitor.trace()), tuple)
        self.assertIs(type(monitor.facts()), tuple)
        self.assertEqual(len(monitor), len(trace))
        self.assertIs(type(len(monitor)), int)
        self.assertEqual(monitor.completion(), most_returned(trace, facts))
        self.assertIsNotNone(monitor.completion())
        for fact in facts:
            self.assertEqual(monitor.status(fact), "entailed")

    def refused(self, monitor, error, action, value):
        """Check that an action raises an error and changes nothing, also not what is undone later."""
        trace, facts = monitor.trace(), monitor.facts()
        kept = copy.deepcopy(value)
        with self.subTest(repr(value)[:60]), self.assertRaises(error) as caught:
            getattr(monitor, action)(value)
        self.assertIs(type(caught.exception), error)
        self.assertEqual(value, kept)
        self.assertEqual((monitor.trace(), monitor.facts()), (trace, facts))
        return caught.exception

    def conflict_of_event(self, monitor, event):
        lines = self.refused(monitor, Conflict, "append", event).derivation
        self.accepted(monitor.trace() + (event,), monitor.facts(), lines)

    def conflict_of_fact(self, monitor, fact):
        lines = self.refused(monitor, Conflict, "observe", fact).derivation
        self.accepted(monitor.trace(), monitor.facts() + (fact,), lines)

    def accepted(self, trace, facts, lines):
        self.assertIs(type(lines), list)
        self.assertIs(is_derivation(trace, facts, lines), True)
        self.assertIs(derives(trace, facts, lines), True)


class Examples(MonitorCase):
    def test_the_example(self):
        m = Monitor()
        self.assertIsNone(m.append(("enter", "f")))
        self.assertIsNone(m.observe(("returned", 0, 1)))
        self.assertEqual(m.completion(), (0, 1))


class Actions(MonitorCase):
    def test_a_new_monitor(self):
        m = Monitor()
        self.check(m, (), ())
        self.assertEqual(m.completion(), (0,))
        self.assertEqual(m.status(("depth", 0, 0, 0)), "entailed")
        self.assertEqual(m.status(("depth", 0, 1, 2)), "excluded")

    def test_each_action_returns_none(self):
        m = Monitor()
        for event in (ENTER, ENTER, TAIL, ("exit", 2), ("catch", 0), MARK):
            self.assertIsNone(m.append(event))
        self.assertIsNone(m.observe(("depth", 6, 0, 1)))
        self.assertIsNone(m.undo())

    def test_events_and_facts_in_turn(self):
        m = Monitor()
        trace, facts = (), ()
        for event, fact in (
            (("enter", "main"), ("active", 0, 1)),
            (("enter", "load"), ("depth", 2, 2, 2)),
            (("enter", "parse"), ("returns", 2, 3, 0, 1)),
            (("exit", 1), ("innermost", 0, 4)),
            (("enter", "save"), ("deeper", 5, 4, 1)),
        ):
            m.append(event)
            trace += (event,)
            self.check(m, trace, facts)
            m.observe(fact)
            facts += (fact,)
            self.check(m, trace, facts)
        self.assertEqual(trace, T)
        self.assertEqual(m.completion(), (0, 0, 0, 1, 0, 0))
        self.assertEqual(m.status(("active", 3, 5)), "entailed")
        self.assertEqual(m.status(("stack", 5, (0,))), "excluded")
        self.assertEqual(Monitor().facts(), ())

    def test_a_fact_about_an_earlier_moment(self):
        m = monitor_of(T, (("returned", 0, 1),))
        self.check(m, T, (("returned", 0, 1),))
        self.assertEqual(m.completion(), (0, 1, 0, 1, 0, 1))
        m.append(MARK)
        self.check(m, T + (MARK,), (("returned", 0, 1),))

    def test_the_same_fact_again(self):
        fact = ("active", 0, 1)
        m = monitor_of((ENTER,), (fact,) * 8)
        self.check(m, (ENTER,), (fact,) * 8)

    def test_status(self):
        m = monitor_of(T)
        self.assertEqual(m.status(("active", 3, 5)), "open")
        m.observe(("deeper", 5, 4, 1))
        self.assertEqual(m.status(("active", 3, 5)), "entailed")
        self.assertEqual(m.status(("returned", 3, 5)), "excluded")
        m.undo()
        self.assertEqual(m.status(("active", 3, 5)), "open")

    def test_two_monitors_are_independent(self):
        first, second = Monitor(), Monitor()
        first.append(ENTER)
        first.observe(("active", 0, 1))
        self.check(second, (), ())
        with self.assertRaises(NothingToUndo):
            second.undo()
        second.append(MARK)
        self.check(first, (ENTER,), (("active", 0, 1),))


class WrongEvents(MonitorCase):
    def test_any_value(self):
        for trace in ((), (MARK,), (ENTER,), T):
            m = monitor_of(trace)
            for value in NO_EVENTS:
                self.refused(m, InvalidEvent, "append", value)
            self.check(m, trace, ())

    def test_frames_that_are_not_there(self):
        for kind in ("exit", "catch"):
            for many in range(4):
                m = monitor_of((ENTER,) * many)
                for frame in (many, many + 1, 9, 10):
                    self.refused(m, InvalidEvent, "append", (kind, frame))

    def test_a_tail_call_before_the_first_entry(self):
        for trace in ((), (MARK,), (MARK,) * 23):
            self.refused(monitor_of(trace), InvalidEvent, "append", TAIL)

    def test_24_events(self):
        for trace in ((MARK,) * 24, (ENTER,) + (MARK,) * 23):
            m = monitor_of(trace)
            for event in (MARK, ENTER):
                self.refused(m, CapacityError, "append", event)
            for value in NO_EVENTS:
                self.refused(m, InvalidEvent, "append", value)
            self.check(m, trace, ())
        for event in (TAIL, EXIT, ("catch", 0)):
            # The frame exists only in the second trace.
            self.refused(monitor_of((MARK,) * 24), InvalidEvent, "append", event)
            self.refused(m, CapacityError, "append", event)
        self.refused(m, InvalidEvent, "append", ("exit", 1))
        m.undo()
        m.append(EXIT)
        self.check(m, trace[:23] + (EXIT,), ())

    def test_10_frames(self):
        for trace in ((ENTER,) * 10, (ENTER,) + (TAIL,) * 9, (ENTER,) * 10 + (MARK,) * 13):
            m = monitor_of(trace)
            for event in (ENTER, TAIL, ("enter", "abcdefgh")):
                self.refused(m, CapacityError, "append", event)
            for value in NO_EVENTS:
                self.refused(m, InvalidEvent, "append", value)
            m.append(MARK)
            self.check(m, trace + (MARK,), ())

    def test_24_events_and_10_frames(self):
        m = monitor_of((ENTER,) * 10 + (MARK,) * 14, (("depth", 24, 3, 3),))
        for event in (ENTER, TAIL, MARK, ("exit", 9), ("catch", 0)):
            self.refused(m, CapacityError, "append", event)
        for value in NO_EVENTS:
            self.refused(m, InvalidEvent, "append", value)

    def test_capacity_comes_before_conflict(self):
        # Frame 0 has returned, so that a second exit would leave no completion.
        m = monitor_of((ENTER, EXIT) + (MARK,) * 22)
        self.refused(m, CapacityError, "append", EXIT)
        self.refused(m, CapacityError, "append", TAIL)
        m.undo()
        self.conflict_of_event(m, EXIT)
        self.conflict_of_event(m, TAIL)
        m = monitor_of((ENTER,) * 10 + tuple(("exit", frame) for frame in reversed(range(10))))
        self.refused(m, CapacityError, "append", TAIL)
        self.conflict_of_event(m, EXIT)

    def test_every_event_that_makes_a_trace(self):
        for length in range(4):
            for trace in small_traces(length):
                if not all_completions(trace):
                    continue
                m = monitor_of(trace)
                events = [MARK, ENTER, TAIL] + [(kind, frame) for kind in ("exit", "catch") for frame in range(-1, 5)]
                for event in events:
                    longer = trace + (event,)
                    if not is_trace(longer):
                        self.refused(m, InvalidEvent, "append", event)
                    elif not all_completions(longer):
                        self.conflict_of_event(m, event)
                    else:
                        m.append(event)
                        self.check(m, longer, ())
                        m.undo()
                    self.check(m, trace, ())


class WrongFacts(MonitorCase):
    def test_any_value(self):
        m = monitor_of(T)
        for value in NOT_A_FACT:
            self.refused(m, InvalidFact, "observe", value)
            self.refused(m, InvalidFact, "status", value)
        self.check(m, T, ())

    def test_no_events(self):
        m = Monitor()
        for value in NOT_A_FACT + [("depth", 1, 0, 0), ("active", 0, 0), ("active", 0, 1), ("stack", 0, (0,))]:
            self.refused(m, InvalidFact, "observe", value)
            self.refused(m, InvalidFact, "status", value)
        m.observe(("depth", 0, 0, 10))
        self.check(m, (), (("depth", 0, 0, 10),))

    def test_facts_about_later_events(self):
        m = monitor_of((ENTER,))
        self.refused(m, InvalidFact, "observe", ("active", 0, 2))
        self.refused(m, InvalidFact, "status", ("active", 0, 2))
        m.append(MARK)
        self.assertEqual(m.status(("active", 0, 2)), "open")
        m.observe(("active", 0, 2))
        m.undo()
        m.undo()
        self.refused(m, InvalidFact, "observe", ("active", 0, 2))

    def test_eight_facts(self):
        m = monitor_of(T)
        for many in range(8):
            m.observe(("depth", 4, 0, 10))
            self.check(m, T, (("depth", 4, 0, 10),) * (many + 1))
        for fact in (("depth", 4, 0, 10), ("active", 0, 4), ("stack", 5, ())):
            self.refused(m, CapacityError, "observe", fact)
            self.assertEqual(m.status(fact), status(T, m.facts(), fact))
        # The place of a fact is told before the number of facts, and this before a conflict.
        for value in NOT_A_FACT:
            self.refused(m, InvalidFact, "observe", value)
        self.refused(m, CapacityError, "observe", ("active", 2, 4))
        m.append(MARK)
        self.refused(m, CapacityError, "observe", ("active", 0, 4))
        m.undo()
        m.undo()
        self.conflict_of_fact(m, ("active", 2, 4))
        m.observe(("active", 0, 4))
        self.check(m, T, (("depth", 4, 0, 10),) * 7 + (("active", 0, 4),))


class Conflicts(MonitorCase):
    def test_of_append(self):
        m = monitor_of((ENTER, EXIT))
        for event in (EXIT, ("catch", 0), TAIL):
            self.conflict_of_event(m, event)
            self.check(m, (ENTER, EXIT), ())
        m = monitor_of((ENTER, ENTER), (("returned", 0, 2),))
        self.conflict_of_event(m, EXIT)
        self.conflict_of_event(m, ("catch", 0))
        m.append(("exit", 1))
        self.check(m, (ENTER, ENTER, ("exit", 1)), (("returned", 0, 2),))

    def test_of_observe(self):
        m = monitor_of(T)
        for fact in (("active", 2, 4), ("depth", 4, 2, 10), ("returned", 1, 3), ("stack", 5, (1, 3))):
            self.conflict_of_fact(m, fact)
            self.check(m, T, ())
        m.observe(("active", 0, 4))
        for fact in (("returned", 0, 4), ("depth", 4, 0, 0), ("returned", 0, 1)):
            self.conflict_of_fact(m, fact)
        self.check(m, T, (("active", 0, 4),))

    def test_the_derivation_names_the_last_event_or_fact(self):
        m = monitor_of((ENTER, EXIT), (("depth", 1, 1, 1),))
        lines = self.refused(m, Conflict, "append", EXIT).derivation
        self.assertIn(("event", 2), [source for moment, bound, source in lines])
        lines = self.refused(m, Conflict, "observe", ("depth", 2, 1, 1)).derivation
        self.assertIn(("fact", 1), [source for moment, bound, source in lines])

    def test_changing_the_derivation_changes_nothing(self):
        m = monitor_of((ENTER, EXIT))
        self.refused(m, Conflict, "append", EXIT).derivation.clear()
        self.conflict_of_event(m, EXIT)
        self.check(m, (ENTER, EXIT), ())

    def test_each_fact_about_small_traces(self):
        for length in range(4):
            for trace in small_traces(length):
                pairs = all_completions(trace)
                if not pairs:
                    continue
                m = monitor_of(trace)
                for fact in all_facts(trace, (0, 1, 2)):
                    if satisfying(trace, pairs, (fact,)):
                        m.observe(fact)
                        self.check(m, trace, (fact,))
                        m.undo()
                    else:
                        self.conflict_of_fact(m, fact)
                self.check(m, trace, ())


class Undoing(MonitorCase):
    def test_nothing_to_undo(self):
        m = Monitor()
        for _ in range(2):
            with self.assertRaises(NothingToUndo):
                m.undo()
            self.check(m, (), ())
        m.append(ENTER)
        m.undo()
        with self.assertRaises(NothingToUndo):
            m.undo()
        self.check(m, (), ())

    def test_down_to_nothing(self):
        m = Monitor()
        known = [((), ())]
        for action, value in (
            ("append", ENTER),
            ("observe", ("active", 0, 1)),
            ("append", ENTER),
            ("append", TAIL),
            ("observe", ("depth", 3, 1, 2)),
            ("observe", ("active", 0, 3)),
            ("append", MARK),
        ):
            getattr(m, action)(value)
            known.append((m.trace(), m.facts()))
        self.assertEqual(len(set(known)), 8)
        for trace, facts in reversed(known):
            self.check(m, trace, facts)
            if trace:
                m.undo()
        with self.assertRaises(NothingToUndo):
            m.undo()

    def test_actions_after_an_undo(self):
        m = monitor_of((ENTER, ENTER), (("active", 0, 2),))
        m.undo()
        m.append(("exit", 1))
        m.observe(("returned", 0, 3))
        self.check(m, (ENTER, ENTER, ("exit", 1)), (("returned", 0, 3),))
        m.undo()
        m.undo()
        self.check(m, (ENTER, ENTER), ())
        m.undo()
        m.undo()
        self.check(m, (), ())
        m.append(MARK)
        m.undo()
        with self.assertRaises(NothingToUndo):
            m.undo()

    def test_an_undone_event_may_come_again(self):
        m = monitor_of((ENTER, EXIT))
        self.conflict_of_event(m, EXIT)
        m.undo()
        m.append(EXIT)
        self.check(m, (ENTER, EXIT), ())

    def test_errors_are_not_undone(self):
        m = monitor_of((ENTER, EXIT), (("depth", 2, 0, 0),))
        self.refused(m, InvalidEvent, "append", ("exit", 1))
        self.refused(m, InvalidFact, "observe", ("active", 1, 2))
        self.refused(m, InvalidFact, "status", None)
        self.refused(m, Conflict, "append", EXIT)
        self.refused(m, Conflict, "observe", ("active", 0, 2))
        m.undo()
        self.check(m, (ENTER, EXIT), ())
        self.refused(m, Conflict, "append", TAIL)
        m.undo()
        self.check(m, (ENTER,), ())

    def test_capacity_errors_are_not_undone(self):
        m = monitor_of((MARK,) * 24, (("depth", 0, 0, 0),) * 8)
        self.refused(m, CapacityError, "append", MARK)
        self.refused(m, CapacityError, "observe", ("depth", 0, 0, 0))
        m.undo()
        self.check(m, (MARK,) * 24, (("depth", 0, 0, 0),) * 7)
        for _ in range(7 + 24):
            m.undo()
        self.check(m, (), ())
        self.refused_undo(m)

    def refused_undo(self, monitor):
        with self.assertRaises(NothingToUndo):
            monitor.undo()

    def test_reading_is_no_action(self):
        m = monitor_of((ENTER,))
        m.trace(), m.facts(), m.completion(), m.status(("active", 0, 1)), len(m), m == m
        m.undo()
        self.check(m, (), ())
        self.refused_undo(m)

    def test_what_was_read_before_stays(self):
        m = monitor_of((ENTER,), (("active", 0, 1),))
        trace, facts = m.trace(), m.facts()
        m.append(MARK)
        m.observe(("active", 0, 2))
        self.assertEqual((trace, facts), ((ENTER,), (("active", 0, 1),)))


class Equality(MonitorCase):
    def equal(self, first, second):
        self.assertIs(first == second, True)
        self.assertIs(second == first, True)
        self.assertIs(first != second, False)

    def unequal(self, first, second):
        self.assertIs(first == second, False)
        self.assertIs(second == first, False)
        self.assertIs(first != second, True)

    def test_equal_monitors(self):
        self.equal(Monitor(), Monitor())
        m = monitor_of(T, (("active", 0, 4),))
        self.equal(m, m)
        self.equal(m, monitor_of(tuple(list(T)), (("active", 0, 4),)))

    def test_different_ways_to_the_same(self):
        first = monitor_of((ENTER, MARK), (("active", 0, 1),))
        second = Monitor()
        second.append(ENTER)
        second.observe(("active", 0, 1))
        second.append(MARK)
        self.equal(first, second)
        second.append(MARK)
        self.unequal(first, second)
        second.undo()
        self.equal(first, second)
        first.undo()
        second.undo()
        # The last action of each was another one.
        self.unequal(first, second)
        self.assertEqual((first.trace(), first.facts()), ((ENTER, MARK), ()))
        self.assertEqual((second.trace(), second.facts()), ((ENTER,), (("active", 0, 1),)))

    def test_after_errors(self):
        first, second = monitor_of((ENTER, EXIT)), monitor_of((ENTER, EXIT))
        self.refused(first, Conflict, "append", EXIT)
        self.refused(second, InvalidEvent, "append", None)
        self.equal(first, second)

    def test_unequal_monitors(self):
        m = monitor_of((ENTER, MARK), (("active", 0, 1),))
        self.unequal(m, Monitor())
        self.unequal(m, monitor_of((ENTER, MARK)))
        self.unequal(m, monitor_of((ENTER,), (("active", 0, 1),)))
        self.unequal(m, monitor_of((("enter", "g"), MARK), (("active", 0, 1),)))
        self.unequal(m, monitor_of((ENTER, MARK), (("returned", 0, 1),)))
        self.unequal(m, monitor_of((ENTER, MARK), (("active", 0, 1),) * 2))
        self.unequal(m, monitor_of((MARK, ENTER), (("active", 0, 2),)))

    def test_the_order_of_facts_matters(self):
        facts = (("active", 0, 1), ("depth", 1, 1, 1))
        self.unequal(monitor_of((ENTER,), facts), monitor_of((ENTER,), facts[::-1]))

    def test_values_that_are_no_monitor(self):
        for m in (Monitor(), monitor_of(T, (("active", 0, 4),))):
            others = ODD_VALUES + [m.trace(), m.facts(), (m.trace(), m.facts()), [m], (m,), len(m), Monitor, object()]
            for value in others:
                self.unequal(m, value)


class LongRuns(MonitorCase):
    def test_actions_by_chance(self):
        """Each action either does what the longer trace or the further fact allows, or changes nothing."""
        chance = Random(101)
        seen = {}
        for _ in range(40):
            m = Monitor()
            known = [((), ())]
            for _ in range(60):
                word = self.act(chance, m, known)
                seen[word] = seen.get(word, 0) + 1
                self.assertEqual((m.trace(), m.facts()), known[-1])
            self.check(m, *known[-1])
        told = {"done", "undone", "NothingToUndo", "InvalidEvent", "InvalidFact", "CapacityError", "Conflict"}
        self.assertEqual(set(seen), told)

    def act(self, chance, monitor, known):
        """Carry out an action, note what the monitor must tell behind it, and return what came of it."""
        trace, facts = known[-1]
        action, value = self.any_action(chance, trace)
        try:
            if action == "undo":
                monitor.undo()
                known.pop()
                return "undone"
            getattr(monitor, action)(value)
        except TraceError as error:
            word = type(error).__name__
            if word == "Conflict":
                told = (trace + (value,), facts) if action == "append" else (trace, facts + (value,))
                self.accepted(*told, error.derivation)
            return word
        known.append((trace + (value,), facts) if action == "append" else (trace, facts + (value,)))
        return "done"

    def any_action(self, chance, trace):
        if chance.randrange(12) == 0:
            return "undo", None
        if chance.randrange(12) == 0:
            return chance.choice(("append", "observe")), chance.choice(ODD_VALUES)
        if chance.randrange(4) == 0:
            return "observe", chance.choice(all_facts(trace, (0, 1, 3, 10)))
        frame = chance.randrange(max(1, created(trace, len(trace))))
        return "append", chance.choice((ENTER, ENTER, TAIL, MARK, ("exit", frame), ("catch", frame)))

    def test_small_traces_with_facts(self):
        chance = Random(102)
        for _ in range(60):
            trace, completion = random_pair(chance, 5)
            pairs = all_completions(trace)
            m = monitor_of(trace)
            kept = ()
            choices = all_facts(trace, (0, 1, 2))
            while len(kept) < 8:
                fact = chance.choice(choices)
                left = satisfying(trace, pairs, kept)
                self.assertEqual(m.status(fact), told_status(trace, left, fact))
                self.assertEqual(m.completion(), extreme(left, max))
                if satisfying(trace, left, (fact,)):
                    m.observe(fact)
                    kept += (fact,)
                else:
                    self.conflict_of_fact(m, fact)
            self.check(m, trace, kept)

    def test_24_events_10_frames_and_8_facts(self):
        chance = Random(103)
        for _ in range(10):
            trace, completion = random_pair(chance, 24)
            while created(trace, 24) < 10:
                trace, completion = random_pair(chance, 24)
            known = meaning(trace, completion)
            m = monitor_of(trace)
            facts = ()
            while len(facts) < 8:
                facts += tuple(fact for fact in near_facts(chance, trace, known, 1) if true(trace, known, fact))
            for fact in facts:
                m.observe(fact)
            self.check(m, trace, facts)
            for fact in chance.sample(all_facts(trace, (0, 5, 10)), 10):
                self.assertEqual(m.status(fact), status(trace, facts, fact))
            for _ in range(32):
                m.undo()
            self.assertEqual(m, Monitor())

    def test_large_traces_that_end_in_a_conflict(self):
        chance = Random(104)
        conflicts = 0
        for _ in range(30):
            m = Monitor()
            for event in large_trace(chance):
                try:
                    m.append(event)
                except Conflict as error:
                    self.accepted(m.trace() + (event,), (), error.derivation)
                    conflicts += 1
                    break
            for fact in chance.sample(all_facts(m.trace(), (0, 5, 10)), 6):
                try:
                    m.observe(fact)
                except Conflict as error:
                    self.accepted(m.trace(), m.facts() + (fact,), error.derivation)
                    conflicts += 1
        self.assertGreater(conflicts, 10)


if __name__ == "__main__":
    unittest.main()
