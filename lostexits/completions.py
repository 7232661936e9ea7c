"""Completions: how many frames return unseen directly before each moment of a trace."""

from lostexits.errors import InvalidCompletion
from lostexits.traces import checked_counts, frames, is_plain_int


def stack_after(stack, event, created):
    """Return the stack after an event before which so many frames are created, or None if it is impossible."""
    kind = event[0]
    if kind == "enter":
        return stack + (created,)
    if kind == "tail":
        return stack[:-1] + (created,) if stack else None
    if kind == "exit":
        return stack[:-1] if stack[-1:] == (event[1],) else None
    if kind == "catch":
        return stack[:stack.index(event[1]) + 1] if event[1] in stack else None
    return stack


def next_stack(trace, created, reached):
    """Return the stack at the moment behind the reached ones, before its unseen returns, or None."""
    if not reached:
        return ()
    last = len(reached) - 1
    return stack_after(reached[last], trace[last], created[last])


def are_moment_numbers(trace, numbers):
    """Return whether a list or tuple has one integer for each moment."""
    return len(numbers) == len(trace) + 1 and all([is_plain_int(number) for number in numbers])


def reached_stacks(trace, created, value):
    """Return the stacks at all moments, or None if the value is not a valid completion of the trace."""
    if not isinstance(value, tuple) or not are_moment_numbers(trace, value):
        return None
    reached = []
    for unseen in value:
        stack = next_stack(trace, created, reached)
        if stack is None or not 0 <= unseen <= len(stack):
            return None
        reached.append(stack[:len(stack) - unseen])
    return reached


def checked_stacks(trace, created, value):
    """Return the stacks at all moments, or raise InvalidCompletion."""
    reached = reached_stacks(trace, created, value)
    if reached is None:
        raise InvalidCompletion("this is not a valid completion of the trace")
    return reached


def is_completion(trace, value):
    """Return whether a value is a valid completion of a trace."""
    return reached_stacks(trace, checked_counts(trace), value) is not None


def stacks(trace, completion):
    """Return the list of the stacks at all moments."""
    return checked_stacks(trace, checked_counts(trace), completion)


def totals(trace, completion):
    """Return, for each moment, how many frames have returned before it, seen or unseen."""
    created = checked_counts(trace)
    # Every frame that is created is active until it returns, and it returns only once.
    return [many - len(stack) for many, stack in zip(created, checked_stacks(trace, created, completion))]


def completion_with(trace, created, numbers):
    """Return the valid completion with this list of one integer for each moment as totals, or None."""
    reached = []
    completion = []
    for moment, total in enumerate(numbers):
        stack = next_stack(trace, created, reached)
        if stack is None:
            return None
        depth = created[moment] - total
        if not 0 <= depth <= len(stack):
            return None
        reached.append(stack[:depth])
        completion.append(len(stack) - depth)
    return tuple(completion)


def from_totals(trace, value):
    """Return the valid completion with this list of totals, or None if there is none."""
    created = checked_counts(trace)
    if not isinstance(value, list) or not are_moment_numbers(trace, value):
        return None
    return completion_with(trace, created, value)


def caller_at(stack, event):
    """Return the caller of the frame that an event creates on a stack, or None."""
    below = stack[:-1] if event[0] == "tail" else stack
    return below[-1] if below else None


def callers(trace, completion):
    """Return the list of the callers of all frames."""
    reached = stacks(trace, completion)
    return [caller_at(reached[at], trace[at]) for name, at in frames(trace)]


def end_of(frame, reached, first):
    """Return the first moment, from a first one on, at which a frame is not active, or None."""
    for moment in range(first, len(reached)):
        if frame not in reached[moment]:
            return moment
    return None


def ends(trace, completion):
    """Return, for each frame, the first moment after its creation at which it is not active, or None."""
    reached = stacks(trace, completion)
    return [end_of(frame, reached, at + 1) for frame, (name, at) in enumerate(frames(trace))]
