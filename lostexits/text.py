"""The text of a trace and a completion: a line for each event and for each moment with unseen returns."""

from lostexits.completions import is_completion, stacks
from lostexits.errors import InvalidText
from lostexits.traces import MOST_FRAMES, is_trace


def event_line(event):
    """Return the line of an event."""
    return " ".join([str(part) for part in event]) + "\n"


def to_text(trace, completion):
    """Return the text of a trace and a completion."""
    # Only the checks of the arguments are needed here.
    stacks(trace, completion)
    lines = []
    for moment, unseen in enumerate(completion):
        if unseen > 0:
            lines.append(f"lost {unseen}\n")
        if moment < len(trace):
            lines.append(event_line(trace[moment]))
    return "".join(lines)


def written_number(word):
    """Return the integer that a word writes, or None if it writes none that a text can have."""
    # No frame and no number of returns is larger than the number of frames.
    words = [str(number) for number in range(MOST_FRAMES + 1)]
    return words.index(word) if word in words else None


def pair_with_event(trace, completion, line):
    """Return the trace with the event of a line, and its completion, or None if the line is wrong."""
    kind, gap, word = line.partition(" ")
    if line == "mark":
        event = ("mark",)
    elif kind in ("exit", "catch"):
        event = (kind, written_number(word))
    else:
        event = (kind, word)
    longer = trace + (event,)
    if not is_trace(longer):
        return None
    return longer, completion + (0,)


def pair_with_loss(trace, completion, word):
    """Return the trace and its completion with a last number that a word writes, or None if it is wrong."""
    unseen = written_number(word)
    if unseen is None or unseen == 0 or completion[-1] > 0:
        return None
    return trace, completion[:-1] + (unseen,)


def pair_with_line(pair, line):
    """Return the trace and the completion after one more line, or None if no text begins so."""
    trace, completion = pair
    kind, gap, word = line.partition(" ")
    if kind == "lost":
        found = pair_with_loss(trace, completion, word)
    else:
        found = pair_with_event(trace, completion, line)
    if found is None or not is_completion(found[0], found[1]):
        return None
    return found


def from_text(text):
    """Return the pair of the trace and the completion with this text."""
    if not isinstance(text, str):
        raise InvalidText(0)
    lines = text.split("\n")
    pair = ((), (0,))
    for number, line in enumerate(lines[:-1], start=1):
        pair = pair_with_line(pair, line)
        if pair is None:
            raise InvalidText(number)
    # Behind the last line feed nothing may follow.
    if lines[-1] != "":
        raise InvalidText(len(lines))
    return pair
