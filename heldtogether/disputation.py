"""What the calls speak to: what is known, what is laid down, and what was proposed.

A set of worlds is a whole number: world w counts 2 to the power of w.
A proposition is the set of the worlds in which it is so.
"""

DENIED = 0
CONCEDED = 1
DOUBTED = 2

DOES_NOT_MATTER = 0
FOLLOWS = 1
IS_AGAINST = 2

NO_SUCH_LETTER = -2
NOTHING_THERE = -6
NOT_BEGUN = -11
ALREADY_LAID = -17
NOT_RIGHT = -22
TOO_MANY = -28
CANNOT_BE = -33

HIGHEST_ANSWER = 2
MOST_LETTERS = 3
MOST_PROPOSED = 20
LONGEST_ROW = 16

# How many propositions there are with 0, 1, 2 and 3 letters; before a begin there is none.
PROPOSITIONS = (0, 4, 16, 256)

# For each of three letters the worlds in which it's so; with fewer letters there are but the first of the worlds.
WORLDS_OF_LETTERS = (170, 204, 240)


def how_many_worlds(worlds):
    found = 0
    rest = worlds
    while rest > 0:
        found = found + rest % 2
        rest = rest // 2
    return found


def verdict(worlds, p):
    """The answer that these worlds give by themselves; there is at least one of them."""
    common = worlds & p
    if common == worlds:
        return CONCEDED
    if common == 0:
        return DENIED
    return DOUBTED


def bearing(standing, p):
    by_standing = verdict(standing, p)
    if by_standing == CONCEDED:
        return FOLLOWS
    if by_standing == DENIED:
        return IS_AGAINST
    return DOES_NOT_MATTER


def right_answer(standing, known, p):
    # What was granted comes before what is known, or the answers would not hold together.
    if bearing(standing, p) == DOES_NOT_MATTER:
        return verdict(known, p)
    return verdict(standing, p)


def narrowed(standing, p, answer):
    """What stands once p was answered so."""
    if answer == CONCEDED:
        return standing & p
    if answer == DENIED:
        return standing & ~p
    return standing


class Disputation:
    """Each method that bears a call's name gives back the list of numbers that is answered."""

    def __init__(self):
        self.letters = 0
        self.known = 0
        # No world at all can't be laid down, so 0 says that nothing is.
        self.laid = 0
        # Pairs of a proposition and the answer that was given to it, in order.
        self.proposed = []

    def has_begun(self):
        return self.letters > 0

    def is_proposition(self, p):
        return p < PROPOSITIONS[self.letters]

    def are_propositions(self, p, q):
        return self.is_proposition(p) and self.is_proposition(q)

    def all_worlds(self):
        return PROPOSITIONS[self.letters] - 1

    def standing(self):
        # Gone through anew from the answers that were given: these stay, whatever is learnt.
        worlds = self.laid
        for p, answer in self.proposed:
            worlds = narrowed(worlds, p, answer)
        return worlds

    def right_answers(self):
        """What would be answered now to each of all propositions, rising."""
        standing = self.standing()
        return [right_answer(standing, self.known, p) for p in range(PROPOSITIONS[self.letters])]

    def how_many_proposed(self, answer, by_known):
        """How many were answered so, while what is known now gives the answer by_known."""
        found = 0
        for p, given in self.proposed:
            if given == answer and verdict(self.known, p) == by_known:
                found = found + 1
        return found

    def refusal(self, p):
        """The refusal of a call on p that needs something laid down; 0 if there is none."""
        if not self.is_proposition(p):
            return NOT_RIGHT
        if self.laid == 0:
            return NOTHING_THERE
        return 0

    def begin(self, letters, known):
        if letters < 1 or letters > MOST_LETTERS:
            return [NOT_RIGHT]
        if known == 0 or known >= PROPOSITIONS[letters]:
            return [NOT_RIGHT]
        self.letters = letters
        self.known = known
        self.laid = 0
        self.proposed = []
        return [how_many_worlds(known)]

    def lay(self, p):
        if not self.is_proposition(p):
            return [NOT_RIGHT]
        if self.laid != 0:
            return [ALREADY_LAID]
        if p == 0:
            return [CANNOT_BE]
        self.laid = p
        return [verdict(self.known, p)]

    def propose(self, p):
        refused = self.refusal(p)
        if refused != 0:
            return [refused]
        if len(self.proposed) == MOST_PROPOSED:
            return [TOO_MANY]
        standing = self.standing()
        answer = right_answer(standing, self.known, p)
        self.proposed.append((p, answer))
        return [answer, bearing(standing, p), how_many_worlds(self.standing())]

    def back(self):
        if len(self.proposed) == 0:
            return [NOTHING_THERE]
        self.proposed.pop()
        return [len(self.proposed)]

    def finish(self):
        if self.laid == 0:
            return [NOTHING_THERE]
        conceded_not_so = self.how_many_proposed(CONCEDED, DENIED)
        denied_but_so = self.how_many_proposed(DENIED, CONCEDED)
        told = [len(self.proposed), conceded_not_so, denied_but_so]
        self.laid = 0
        self.proposed = []
        return told

    def learn(self, worlds):
        if not self.is_proposition(worlds):
            return [NOT_RIGHT]
        if self.known & worlds == 0:
            return [CANNOT_BE]
        self.known = self.known & worlds
        return [how_many_worlds(self.known)]

    def answer(self, p):
        refused = self.refusal(p)
        if refused != 0:
            return [refused]
        standing = self.standing()
        return [right_answer(standing, self.known, p), bearing(standing, p)]

    def row(self, propositions):
        if len(propositions) > LONGEST_ROW:
            return [NOT_RIGHT]
        for p in propositions:
            if not self.is_proposition(p):
                return [NOT_RIGHT]
        if self.laid == 0:
            return [NOTHING_THERE]
        told = [len(propositions)]
        standing = self.standing()
        for p in propositions:
            answer = right_answer(standing, self.known, p)
            standing = narrowed(standing, p, answer)
            told.append(answer)
        return told

    def stands(self):
        if self.laid == 0:
            return [NOTHING_THERE]
        standing = self.standing()
        return [how_many_worlds(standing), standing]

    def matters(self, p):
        refused = self.refusal(p)
        if refused != 0:
            return [refused]
        if bearing(self.standing(), p) == DOES_NOT_MATTER:
            return [0]
        return [1]

    def log(self):
        told = [len(self.proposed)]
        for p, answer in self.proposed:
            told.append(p)
            told.append(answer)
        return told

    def counts(self):
        if self.laid == 0:
            return [NOTHING_THERE]
        given = self.right_answers()
        return [given.count(CONCEDED), given.count(DENIED), given.count(DOUBTED)]

    def nth(self, answer, which):
        if answer > HIGHEST_ANSWER:
            return [NOT_RIGHT]
        if self.laid == 0:
            return [NOTHING_THERE]
        found = [p for p, given in enumerate(self.right_answers()) if given == answer]
        if which >= len(found):
            return [CANNOT_BE]
        return [found[which]]

    def truth(self, p):
        if not self.is_proposition(p):
            return [NOT_RIGHT]
        return [verdict(self.known, p)]

    def letter(self, i):
        if i >= self.letters:
            return [NO_SUCH_LETTER]
        return [WORLDS_OF_LETTERS[i] & self.all_worlds()]

    def not_of(self, p):
        if not self.is_proposition(p):
            return [NOT_RIGHT]
        return [self.all_worlds() - p]

    def both(self, p, q):
        if not self.are_propositions(p, q):
            return [NOT_RIGHT]
        return [p & q]

    def either(self, p, q):
        if not self.are_propositions(p, q):
            return [NOT_RIGHT]
        return [p | q]

    def if_then(self, p, q):
        if not self.are_propositions(p, q):
            return [NOT_RIGHT]
        return [(self.all_worlds() - p) | q]

    def follows(self, p, q):
        """Whether q follows of p."""
        if not self.are_propositions(p, q):
            return [NOT_RIGHT]
        if p & q == p:
            return [1]
        return [0]

    def state(self):
        if self.laid == 0:
            return [self.letters, self.known]
        return [self.letters, self.known, self.laid, len(self.proposed)]
