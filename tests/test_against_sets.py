"""The program against the same calls told over Python's sets."""

import itertools
import random
import unittest

from heldtogether.granted import answers
from tests.by_sets import answers_by_sets
from tests.drawn import some_asking, some_call, some_calls, some_number
from tests.lines import (answer, back, begin, both, counts, either, finish, follows, if_then, lay, learn, line, log,
                         matters, not_of, nth, propose, row, stands, state, truth)


class AgainstSets(unittest.TestCase):
    def same(self, calls):
        told = answers(line(*calls))
        self.assertEqual(told, answers_by_sets(calls), calls)

    def test_all_of_one_letter(self):
        for known, laid in itertools.product(range(1, 4), repeat=2):
            for ps in itertools.product(range(4), repeat=3):
                self.same([begin(1, known), lay(laid), row(*ps), counts()] + [propose(p) for p in ps]
                          + [stands(), log(), counts(), state(), back(), stands(), counts(), finish(), state()])

    def test_all_pairs_of_two_letters(self):
        for known, laid, p in itertools.product(range(1, 16), range(1, 16), range(16)):
            calls = [begin(2, known), lay(laid), propose(p)]
            for q in range(16):
                calls += [answer(q), matters(q)]
            calls += [counts(), nth(1, p), nth(0, p), nth(2, p)]
            self.same(calls + [stands(), row(*range(16)), learn(p), counts(), state(), finish()])

    def test_all_made_of_two_propositions(self):
        for m in (1, 2):
            for p, q in itertools.product(range(2 ** 2 ** m + 1), repeat=2):
                self.same([begin(m, q or 1), truth(p), not_of(p), both(p, q), either(p, q), if_then(p, q), follows(p, q)])

    def test_many_lines_of_each_number_of_letters(self):
        dice = random.Random(20)
        for m in (1, 2, 3):
            for _ in range(1200):
                self.same(some_calls(dice, m, 60))

    def test_many_lines_that_begin_anyhow(self):
        dice = random.Random(22)
        for m in (1, 2, 3):
            for _ in range(300):
                self.same([some_call(dice, m) for _ in range(dice.randrange(4))] + some_calls(dice, m, 56))

    def test_the_ten_asking_calls_in_many_lines(self):
        dice = random.Random(23)
        for m in (1, 2, 3):
            for _ in range(200):
                before = some_calls(dice, m, 20)
                self.same(before + [some_asking(dice, m) for _ in range(40)])

    def test_many_lines_up_to_too_many(self):
        dice = random.Random(21)
        for _ in range(300):
            calls = [begin(3, 255), lay(255 - dice.randrange(255))]
            calls += [dice.choice([propose(some_number(dice, 3)), propose(255), learn(254)]) for _ in range(50)]
            self.same(calls + [log(), stands(), counts(), state(), finish()])


if __name__ == "__main__":
    unittest.main()
