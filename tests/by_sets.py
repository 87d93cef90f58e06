"""The same calls told a second time, over Python's sets of worlds, to hold the program against."""


def worlds_of(number):
    return frozenset(w for w in range(number.bit_length()) if number >> w & 1)


def number_of(worlds):
    return sum(2 ** w for w in worlds)


class BySets:
    def __init__(self):
        self.everything = None
        self.known = None
        self.stack = []
        self.log = []

    def isnt_right(self, numbers):
        return any(n >= 2 ** len(self.everything) for n in numbers)

    def judged(self, p):
        standing, worlds = self.stack[-1], worlds_of(p)
        if standing <= worlds:
            return 1, 1
        if not standing & worlds:
            return 0, 2
        if self.known <= worlds:
            return 1, 0
        if not self.known & worlds:
            return 0, 0
        return 2, 0

    def grant(self, p):
        a, how = self.judged(p)
        kept = {1: self.stack[-1] & worlds_of(p), 0: self.stack[-1] - worlds_of(p), 2: self.stack[-1]}[a]
        self.stack.append(kept)
        self.log.append((p, a))
        return [a, how, len(kept)]

    def call(self, call):
        number, given = call[0], call[1:]
        if number == 0:
            return self.begin(*given)
        if self.everything is None:
            return [-11]
        names = {1: self.lay, 2: self.propose, 3: self.back, 4: self.finish, 5: self.learn, 6: self.answer,
                 7: self.row, 8: self.stands, 9: self.matters, 10: self.told}
        return names[number](*(given[1:] if number == 7 else given))

    def begin(self, m, k):
        if m not in (1, 2, 3) or not 0 < k < 2 ** 2 ** m:
            return [-22]
        self.everything = frozenset(range(2 ** m))
        self.known, self.stack, self.log = worlds_of(k), [], []
        return [len(self.known)]

    def lay(self, p):
        if self.isnt_right([p]):
            return [-22]
        if self.stack:
            return [-17]
        if p == 0:
            return [-33]
        self.stack = [worlds_of(p)]
        return [1 if self.known <= worlds_of(p) else 2 if self.known & worlds_of(p) else 0]

    def propose(self, p):
        if self.isnt_right([p]):
            return [-22]
        if not self.stack:
            return [-6]
        if len(self.log) >= 20:
            return [-28]
        return self.grant(p)

    def back(self):
        if not self.log:
            return [-6]
        self.stack.pop()
        self.log.pop()
        return [len(self.log)]

    def finish(self):
        if not self.stack:
            return [-6]
        falsely = sum(1 for p, a in self.log if a == 1 and not self.known & worlds_of(p))
        denied = sum(1 for p, a in self.log if a == 0 and self.known <= worlds_of(p))
        told = [len(self.log), falsely, denied]
        self.stack, self.log = [], []
        return told

    def learn(self, k):
        if self.isnt_right([k]):
            return [-22]
        if not self.known & worlds_of(k):
            return [-33]
        self.known &= worlds_of(k)
        return [len(self.known)]

    def answer(self, p):
        if self.isnt_right([p]):
            return [-22]
        return list(self.judged(p)) if self.stack else [-6]

    def row(self, *l):
        if len(l) > 16 or self.isnt_right(l):
            return [-22]
        if not self.stack:
            return [-6]
        kept = list(self.stack), list(self.log)
        told = [len(l)] + [self.grant(p)[0] for p in l]
        self.stack, self.log = kept
        return told

    def stands(self):
        return [len(self.stack[-1]), number_of(self.stack[-1])] if self.stack else [-6]

    def matters(self, p):
        if self.isnt_right([p]):
            return [-22]
        if not self.stack:
            return [-6]
        return [0 if self.judged(p)[1] == 0 else 1]

    def told(self):
        return [len(self.log)] + [number for pair in self.log for number in pair]


def answers_by_sets(calls):
    held = BySets()
    told = []
    for call in calls:
        answered = held.call(call)
        told += [len(answered)] + answered
    return told
