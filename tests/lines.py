"""Calls written out as the interface tells, and answers taken apart again."""

from heldtogether.granted import answers


def begin(m, k):
    return [0, m, k]


def lay(p):
    return [1, p]


def propose(p):
    return [2, p]


def back():
    return [3]


def finish():
    return [4]


def learn(k):
    return [5, k]


def answer(p):
    return [6, p]


def row(*l):
    return [7, len(l), *l]


def stands():
    return [8]


def matters(p):
    return [9, p]


def log():
    return [10]


def counts():
    return [11]


def nth(a, k):
    return [12, a, k]


def truth(p):
    return [13, p]


def letter(i):
    return [14, i]


def not_of(p):
    return [15, p]


def both(p, q):
    return [16, p, q]


def either(p, q):
    return [17, p, q]


def if_then(p, q):
    return [18, p, q]


def follows(p, q):
    return [19, p, q]


def state():
    return [20]


# All by which the object can be looked at without a number that one must choose.
LOOK = (state(), stands(), log(), counts())


def line(*calls):
    return [number for call in calls for number in call]


def taken_apart(told):
    parts = []
    at = 0
    while at < len(told):
        end = at + 1 + told[at]
        if told[at] < 1 or end > len(told):
            raise AssertionError(f"the counts don't fit: {told}")
        parts.append(told[at + 1:end])
        at = end
    return parts


def ask(*calls):
    """The answers to these calls, a list for each call."""
    parts = taken_apart(answers(line(*calls)))
    if len(parts) != len(calls):
        raise AssertionError(f"{len(calls)} calls, {len(parts)} answers")
    return parts


def last(*calls):
    return ask(*calls)[-1]


def last_parts(before, *calls):
    """The answers to the calls alone, without those to the line that stands before them."""
    return taken_apart(answers(before + line(*calls)))[-len(calls):]


def each_by_itself(before, calls):
    """The answers to the calls, in as many lines as it takes: a line has at most 60 calls."""
    parts = []
    for at in range(0, len(calls), 20):
        parts += last_parts(before, *calls[at:at + 20])
    return parts


def all_answered(before, a):
    """All propositions that nth tells, from 0 up to where there is none."""
    found = []
    while True:
        told = each_by_itself(before, [nth(a, k) for k in range(len(found), len(found) + 20)])
        good = [part[0] for part in told if part != [-33]]
        if told != [[p] for p in good] + [[-33]] * (20 - len(good)):
            raise AssertionError(f"there is none, and then one: {told}")
        found += good
        if len(good) < 20:
            return found
