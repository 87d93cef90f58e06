"""Calls written out as the interface tells, and answers taken apart again."""

from heldtogether.granted import answers


def begin(m, k):
    return [0, m, k]


def lay(p):
    return [1, p]


def propose(p):
    return [2, p]


def back():
    return [3]


def finish():
    return [4]


def learn(k):
    return [5, k]


def answer(p):
    return [6, p]


def row(*l):
    return [7, len(l), *l]


def stands():
    return [8]


def matters(p):
    return [9, p]


def log():
    return [10]


LATER_CALLS = ([11], [12, 0, 0], [13, 1], [14, 0], [15, 1], [16, 1, 1], [17, 1, 1], [18, 1, 1], [19, 1, 1], [20])


def line(*calls):
    return [number for call in calls for number in call]


def taken_apart(told):
    parts = []
    at = 0
    while at < len(told):
        end = at + 1 + told[at]
        if told[at] < 1 or end > len(told):
            raise AssertionError(f"the counts don't fit: {told}")
        parts.append(told[at + 1:end])
        at = end
    return parts


def ask(*calls):
    """The answers to these calls, a list for each call."""
    parts = taken_apart(answers(line(*calls)))
    if len(parts) != len(calls):
        raise AssertionError(f"{len(calls)} calls, {len(parts)} answers")
    return parts


def last(*calls):
    return ask(*calls)[-1]


def last_parts(before, *calls):
    """The answers to the calls alone, without those to the line that stands before them."""
    return taken_apart(answers(before + line(*calls)))[-len(calls):]
