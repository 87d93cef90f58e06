"""The interface: the calls as one list of whole numbers, their answers as another."""

from heldtogether.disputation import NOT_BEGUN, Disputation

# The numbers of the calls; state, the last one, is what is left when it's none of these.
BEGIN = 0
LAY = 1
PROPOSE = 2
BACK = 3
FINISH = 4
LEARN = 5
ANSWER = 6
ROW = 7
STANDS = 8
MATTERS = 9
LOG = 10
COUNTS = 11
NTH = 12
TRUTH = 13
LETTER = 14
NOT_OF = 15
BOTH = 16
EITHER = 17
IF_THEN = 18
FOLLOWS = 19

# How many whole numbers stand behind each call's number. A row tells it by itself.
HOW_MANY_GIVEN = (2, 1, 1, 0, 0, 1, 1, 0, 0, 1, 0, 0, 2, 1, 1, 1, 2, 2, 2, 2, 0)


def where_given(calls, at):
    """Where that begins which is given with the call at this place."""
    if calls[at] == ROW:
        return at + 2
    return at + 1


def how_many_given(calls, at):
    if calls[at] == ROW:
        return calls[at + 1]
    return HOW_MANY_GIVEN[calls[at]]


def answer_what_changes(held, call, given):
    if call == LAY:
        return held.lay(given[0])
    if call == PROPOSE:
        return held.propose(given[0])
    if call == BACK:
        return held.back()
    if call == FINISH:
        return held.finish()
    return held.learn(given[0])


def answer_what_is_asked(held, call, given):
    """The calls about what was laid down and proposed."""
    if call == ANSWER:
        return held.answer(given[0])
    if call == ROW:
        return held.row(given)
    if call == STANDS:
        return held.stands()
    if call == MATTERS:
        return held.matters(given[0])
    if call == LOG:
        return held.log()
    if call == COUNTS:
        return held.counts()
    return held.nth(given[0], given[1])


def answer_without_laying(held, call, given):
    """The calls for which nothing need be laid down."""
    if call == TRUTH:
        return held.truth(given[0])
    if call == LETTER:
        return held.letter(given[0])
    if call == NOT_OF:
        return held.not_of(given[0])
    if call == BOTH:
        return held.both(given[0], given[1])
    if call == EITHER:
        return held.either(given[0], given[1])
    if call == IF_THEN:
        return held.if_then(given[0], given[1])
    if call == FOLLOWS:
        return held.follows(given[0], given[1])
    return held.state()


def answer_call(held, call, given):
    if call == BEGIN:
        return held.begin(given[0], given[1])
    if not held.has_begun():
        return [NOT_BEGUN]
    if call <= LEARN:
        return answer_what_changes(held, call, given)
    if call <= NTH:
        return answer_what_is_asked(held, call, given)
    return answer_without_laying(held, call, given)


def answers(calls):
    """For each call, in order: how many numbers are answered, then these."""
    held = Disputation()
    told = []
    at = 0
    while at < len(calls):
        start = where_given(calls, at)
        end = start + how_many_given(calls, at)
        answered = answer_call(held, calls[at], calls[start:end])
        told.append(len(answered))
        told.extend(answered)
        at = end
    return told
