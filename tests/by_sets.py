"""The same calls told a second time, over Python's sets of worlds, to hold the program against."""


def worlds_of(number):
    return frozenset(w for w in range(number.bit_length()) if number >> w & 1)


def number_of(worlds):
    return sum(2 ** w for w in worlds)


class BySets:
    def __init__(self):
        self.letters = 0
        self.everything = None
        self.known = None
        # What stood at first, and after each that was proposed.
        self.stack = []
        self.log = []

    def isnt_right(self, numbers):
        return any(n >= 2 ** len(self.everything) for n in numbers)

    def judged(self, p):
        standing, worlds = self.stack[-1], worlds_of(p)
        if standing <= worlds:
            return 1, 1
        if not standing & worlds:
            return 0, 2
        if self.known <= worlds:
            return 1, 0
        if not self.known & worlds:
            return 0, 0
        return 2, 0

    def grant(self, p):
        a, how = self.judged(p)
        kept = {1: self.stack[-1] & worlds_of(p), 0: self.stack[-1] - worlds_of(p), 2: self.stack[-1]}[a]
        self.stack.append(kept)
        self.log.append((p, a))
        return [a, how, len(kept)]

    def call(self, call):
        number, given = call[0], call[1:]
        if number == 0:
            return self.begin(*given)
        if self.everything is None:
            return [-11]
        names = {1: self.lay, 2: self.propose, 3: self.back, 4: self.finish, 5: self.learn, 6: self.answer,
                 7: self.row, 8: self.stands, 9: self.matters, 10: self.told, 11: self.counts, 12: self.nth,
                 13: self.truth, 14: self.letter, 15: self.not_of, 16: self.both, 17: self.either, 18: self.if_then,
                 19: self.follows, 20: self.state}
        return names[number](*(given[1:] if number == 7 else given))

    def begin(self, m, k):
        if m not in (1, 2, 3) or not 0 < k < 2 ** 2 ** m:
            return [-22]
        self.letters, self.everything = m, frozenset(range(2 ** m))
        self.known, self.stack, self.log = worlds_of(k), [], []
        return [len(self.known)]

    def lay(self, p):
        if self.isnt_right([p]):
            return [-22]
        if self.stack:
            return [-17]
        if p == 0:
            return [-33]
        self.stack = [worlds_of(p)]
        return [1 if self.known <= worlds_of(p) else 2 if self.known & worlds_of(p) else 0]

    def propose(self, p):
        if self.isnt_right([p]):
            return [-22]
        if not self.stack:
            return [-6]
        if len(self.log) >= 20:
            return [-28]
        return self.grant(p)

    def back(self):
        if not self.log:
            return [-6]
        self.stack.pop()
        self.log.pop()
        return [len(self.log)]

    def finish(self):
        if not self.stack:
            return [-6]
        falsely = sum(1 for p, a in self.log if a == 1 and not self.known & worlds_of(p))
        denied = sum(1 for p, a in self.log if a == 0 and self.known <= worlds_of(p))
        told = [len(self.log), falsely, denied]
        self.stack, self.log = [], []
        return told

    def learn(self, k):
        if self.isnt_right([k]):
            return [-22]
        if not self.known & worlds_of(k):
            return [-33]
        self.known &= worlds_of(k)
        return [len(self.known)]

    def answer(self, p):
        if self.isnt_right([p]):
            return [-22]
        return list(self.judged(p)) if self.stack else [-6]

    def row(self, *l):
        if len(l) > 16 or self.isnt_right(l):
            return [-22]
        if not self.stack:
            return [-6]
        kept = list(self.stack), list(self.log)
        told = [len(l)] + [self.grant(p)[0] for p in l]
        self.stack, self.log = kept
        return told

    def stands(self):
        return [len(self.stack[-1]), number_of(self.stack[-1])] if self.stack else [-6]

    def matters(self, p):
        if self.isnt_right([p]):
            return [-22]
        if not self.stack:
            return [-6]
        return [0 if self.judged(p)[1] == 0 else 1]

    def told(self):
        return [len(self.log)] + [number for pair in self.log for number in pair]

    def answered(self, a):
        return [p for p in range(2 ** len(self.everything)) if self.judged(p)[0] == a]

    def counts(self):
        return [len(self.answered(a)) for a in (1, 0, 2)] if self.stack else [-6]

    def nth(self, a, k):
        if a not in (0, 1, 2):
            return [-22]
        if not self.stack:
            return [-6]
        return self.answered(a)[k:k + 1] or [-33]

    def truth(self, p):
        if self.isnt_right([p]):
            return [-22]
        return [{(True,): 1, (False,): 0}.get(tuple({w in worlds_of(p) for w in self.known}), 2)]

    def letter(self, i):
        if i not in range(self.letters):
            return [-2]
        return [number_of(w for w in self.everything if w // 2 ** i % 2 == 1)]

    def made(self, given, keep):
        """The proposition that is so in just those worlds in which keep holds of what's given."""
        if self.isnt_right(given):
            return [-22]
        sets = [worlds_of(p) for p in given]
        return [number_of(w for w in self.everything if keep(*[w in one for one in sets]))]

    def not_of(self, p):
        return self.made([p], lambda in_p: not in_p)

    def both(self, p, q):
        return self.made([p, q], lambda in_p, in_q: in_p and in_q)

    def either(self, p, q):
        return self.made([p, q], lambda in_p, in_q: in_p or in_q)

    def if_then(self, p, q):
        return self.made([p, q], lambda in_p, in_q: in_q if in_p else True)

    def follows(self, p, q):
        if self.isnt_right([p, q]):
            return [-22]
        return [1 if worlds_of(p) <= worlds_of(q) else 0]

    def state(self):
        laid = [number_of(self.stack[0]), len(self.log)] if self.stack else []
        return [self.letters, number_of(self.known)] + laid


def answers_by_sets(calls):
    held = BySets()
    told = []
    for call in calls:
        answered = held.call(call)
        told += [len(answered)] + answered
    return told
