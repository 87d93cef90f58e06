"""The program against the same calls told over Python's sets, and what must hold always."""

import itertools
import random
import unittest

from heldtogether.granted import answers
from tests.by_sets import answers_by_sets
from tests.lines import (answer, back, begin, finish, last_parts, lay, learn, line, log, matters, propose, row, stands)

HIGHEST = 4294967295


def some_number(dice, m):
    top = 2 ** 2 ** m
    return dice.choice([dice.randrange(top)] * 12 + [0, top - 1, top, HIGHEST])


def some_call(dice, m):
    n = some_number(dice, m)
    many = dice.choice([0, 1, 2, 5, 16, 17])
    fitting = [dice.randrange(2 ** 2 ** m) for _ in range(many)]
    calls = ([propose(n)] * 8 + [learn(n | dice.randrange(2 ** 2 ** m))] + [lay(n)] * 2
             + [back(), answer(n), matters(n), stands(), log(), row(*fitting), row(n, *fitting[:3])])
    seldom = dice.randrange(40)
    if seldom == 0:
        return begin(dice.choice([m, m, 0, 4, HIGHEST]), n)
    if seldom == 1:
        return finish()
    return dice.choice(calls)


class AgainstSets(unittest.TestCase):
    def same(self, calls):
        told = answers(line(*calls))
        self.assertEqual(told, answers_by_sets(calls), calls)

    def test_all_of_one_letter(self):
        for known, laid in itertools.product(range(1, 4), repeat=2):
            for ps in itertools.product(range(4), repeat=3):
                self.same([begin(1, known), lay(laid), row(*ps)] + [propose(p) for p in ps]
                          + [stands(), log(), back(), stands(), finish()])

    def test_all_pairs_of_two_letters(self):
        for known, laid, p in itertools.product(range(1, 16), range(1, 16), range(16)):
            calls = [begin(2, known), lay(laid), propose(p)]
            for q in range(16):
                calls += [answer(q), matters(q)]
            self.same(calls + [stands(), row(*range(16)), learn(p), finish()])

    def test_many_lines_of_each_number_of_letters(self):
        dice = random.Random(20)
        for m in (1, 2, 3):
            for _ in range(1500):
                known = dice.randrange(1, 2 ** 2 ** m)
                start = [begin(m, known), lay(dice.randrange(1, 2 ** 2 ** m))]
                self.same(start + [some_call(dice, m) for _ in range(dice.randrange(59))])

    def test_many_lines_up_to_too_many(self):
        dice = random.Random(21)
        for _ in range(300):
            calls = [begin(3, 255), lay(255 - dice.randrange(255))]
            calls += [dice.choice([propose(some_number(dice, 3)), propose(255), learn(254)]) for _ in range(50)]
            self.same(calls + [log(), stands(), finish()])


class WhatHolds(unittest.TestCase):
    def lines_begun(self):
        dice = random.Random(4)
        for _ in range(150):
            m = dice.choice([1, 2, 3])
            top = 2 ** 2 ** m
            before = line(begin(m, dice.randrange(1, top)), lay(dice.randrange(1, top)))
            before += line(*[propose(dice.randrange(top)) for _ in range(dice.randrange(12))])
            yield top, before

    def test_never_caught(self):
        for _, before in self.lines_begun():
            self.assertGreater(last_parts(before, stands())[0][0], 0)

    def test_the_opposite_of_what_is_conceded_is_denied(self):
        for top, before in self.lines_begun():
            for p in range(0, top, 5):
                told, opposite = last_parts(before, answer(p), answer(top - 1 - p))
                self.assertEqual([{1: 0, 0: 1, 2: 2}[told[0]], {1: 2, 2: 1, 0: 0}[told[1]]], opposite)

    def test_what_was_conceded_or_denied_once_stays_so(self):
        for top, before in self.lines_begun():
            _, pairs = last_parts(before, stands(), log())
            for p, given in zip(pairs[1::2], pairs[2::2]):
                if given != 2:
                    self.assertEqual(last_parts(before, answer(p)), [[given, {1: 1, 0: 2}[given]]])


if __name__ == "__main__":
    unittest.main()
