"""The text of a trace and a completion: a line for each event and for each moment with unseen returns."""

from lostexits.completions import stack_after, stacks
from lostexits.errors import InvalidText
from lostexits.traces import CREATING, MOST_EVENTS, MOST_FRAMES, is_event

# No frame and no number of returns is larger than the number of frames.
WRITTEN = {"0": 0, "1": 1, "2": 2, "3": 3, "4": 4, "5": 5, "6": 6, "7": 7, "8": 8, "9": 9, "10": 10}


def event_line(event):
    """Return the line of an event."""
    return " ".join([str(part) for part in event]) + "\n"


def to_text(trace, completion):
    """Return the text of a trace and a completion."""
    # Only the checks of the arguments are needed here.
    stacks(trace, completion)
    lines = []
    for moment, unseen in enumerate(completion):
        if unseen > 0:
            lines.append(f"lost {unseen}\n")
        if moment < len(trace):
            lines.append(event_line(trace[moment]))
    return "".join(lines)


class Reading:
    """The trace and the completion that the lines so far tell, and the stack behind these lines.

    Each line is judged by the stack alone, so that no line costs more time the more lines are before it.
    A method that takes something returns whether a text may go on so; if not, the reading ends.
    """

    def __init__(self):
        self.events = []
        self.unseen = [0]
        self.stack = ()
        self.entered = 0

    def take_loss(self, word):
        """Take the number of unseen returns that a word writes."""
        many = WRITTEN.get(word, 0)
        if not 1 <= many <= len(self.stack) or self.unseen[-1] > 0:
            return False
        self.unseen[-1] = many
        self.stack = self.stack[:-many]
        return True

    def take_event(self, event):
        """Take a value that stands in the place of an event."""
        if len(self.events) == MOST_EVENTS or not is_event(event, self.entered):
            return False
        stack = stack_after(self.stack, event, self.entered)
        if event[0] in CREATING:
            self.entered += 1
        if stack is None or self.entered > MOST_FRAMES:
            return False
        self.stack = stack
        self.events.append(event)
        self.unseen.append(0)
        return True

    def take_line(self, line):
        """Take a line without its line feed."""
        kind, gap, word = line.partition(" ")
        if kind == "lost":
            return self.take_loss(word)
        if kind in ("exit", "catch"):
            return self.take_event((kind, WRITTEN.get(word)))
        return self.take_event((kind, word) if gap else (kind,))


def from_text(text):
    """Return the pair of the trace and the completion with this text."""
    if not isinstance(text, str):
        raise InvalidText(0)
    lines = text.split("\n")
    reading = Reading()
    for number, line in enumerate(lines[:-1], start=1):
        if not reading.take_line(line):
            raise InvalidText(number)
    # Behind the last line feed nothing may follow.
    if lines[-1] != "":
        raise InvalidText(len(lines))
    return tuple(reading.events), tuple(reading.unseen)
