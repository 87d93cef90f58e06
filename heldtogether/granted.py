"""The interface: the calls as one list of whole numbers, their answers as another."""

from heldtogether.disputation import NOT_BEGUN, Disputation

BEGIN = 0
LAY = 1
PROPOSE = 2
BACK = 3
FINISH = 4
LEARN = 5
ANSWER = 6
ROW = 7
STANDS = 8
MATTERS = 9
LOG = 10

# How many whole numbers stand behind each call's number. A row tells it by itself.
# The calls that are not written yet are here too: before a begin they answer as well.
HOW_MANY_GIVEN = (2, 1, 1, 0, 0, 1, 1, 0, 0, 1, 0, 0, 2, 1, 1, 1, 2, 2, 2, 2, 0)


def where_given(calls, at):
    """Where that begins which is given with the call at this place."""
    if calls[at] == ROW:
        return at + 2
    return at + 1


def how_many_given(calls, at):
    if calls[at] == ROW:
        return calls[at + 1]
    return HOW_MANY_GIVEN[calls[at]]


def answer_once_begun(held, call, given):
    if call == LAY:
        return held.lay(given[0])
    if call == PROPOSE:
        return held.propose(given[0])
    if call == BACK:
        return held.back()
    if call == FINISH:
        return held.finish()
    if call == LEARN:
        return held.learn(given[0])
    if call == ANSWER:
        return held.answer(given[0])
    if call == ROW:
        return held.row(given)
    if call == STANDS:
        return held.stands()
    if call == MATTERS:
        return held.matters(given[0])
    if call == LOG:
        return held.log()
    raise NotImplementedError("this call is not written yet")


def answer_call(held, call, given):
    if call == BEGIN:
        return held.begin(given[0], given[1])
    if not held.has_begun():
        return [NOT_BEGUN]
    return answer_once_begun(held, call, given)


def answers(calls):
    """For each call, in order: how many numbers are answered, then these."""
    held = Disputation()
    told = []
    at = 0
    while at < len(calls):
        start = where_given(calls, at)
        end = start + how_many_given(calls, at)
        answered = answer_call(held, calls[at], calls[start:end])
        told.append(len(answered))
        told.extend(answered)
        at = end
    return told
