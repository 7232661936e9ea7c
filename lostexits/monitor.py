"""A monitor: a trace and facts that grow one at a time and always stay consistent."""

from lostexits.derivations import derivation
from lostexits.errors import CapacityError, Conflict, InvalidEvent, NothingToUndo
from lostexits.facts import MOST_FACTS, check_fact
from lostexits.queries import status_among
from lostexits.solutions import solutions_of
from lostexits.solving import most_returned
from lostexits.traces import created_counts, is_event, is_trace


class Monitor:
    """A trace and facts, and what they were before each action that has not been undone."""

    def __init__(self):
        self.events = ()
        self.observed = ()
        self.earlier = []

    def become(self, events, observed):
        """Take a longer trace or more facts, or raise Conflict if no completion remains."""
        lines = derivation(events, observed)
        if lines is not None:
            raise Conflict(lines)
        self.earlier.append((self.events, self.observed))
        self.events = events
        self.observed = observed

    def append(self, event):
        """Append an event."""
        if not is_event(event, created_counts(self.events)[-1]):
            raise InvalidEvent("this is not an event that may follow the events so far")
        longer = self.events + (event,)
        # Every event may follow those before it, so only a number can be too large.
        if not is_trace(longer):
            raise CapacityError("the trace has as many events or frames as it may have")
        self.become(longer, self.observed)

    def observe(self, fact):
        """Append a fact."""
        check_fact(created_counts(self.events), fact)
        if len(self.observed) == MOST_FACTS:
            raise CapacityError("there are as many facts as there may be")
        self.become(self.events, self.observed + (fact,))

    def undo(self):
        """Revert the last action that has not been undone."""
        if not self.earlier:
            raise NothingToUndo("no action is left that could be undone")
        self.events, self.observed = self.earlier.pop()

    def trace(self):
        """Return the tuple of the events."""
        return self.events

    def facts(self):
        """Return the tuple of the facts."""
        return self.observed

    def completion(self):
        """Return the completion that satisfies all facts with the largest total at every moment."""
        return most_returned(self.events, self.observed)

    def status(self, fact):
        """Return "entailed", "excluded" or "open"."""
        created = created_counts(self.events)
        check_fact(created, fact)
        return status_among(solutions_of(self.events, created, self.observed), fact)

    def __len__(self):
        return len(self.events)

    def __eq__(self, other):
        return isinstance(other, Monitor) and self.events == other.events and self.observed == other.observed
