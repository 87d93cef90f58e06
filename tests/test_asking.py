"""counts, nth, truth, letter, not, both, either, if, follows and state at ordinary inputs, worked out by hand.

One letter: the worlds are 0 (it isn't so) and 1; 1 is "it isn't so", 2 "it's so", 3 always.
Two letters, A and B: A is 10, B is 12. Three letters: A is 170, B is 204, C is 240.
"""

import itertools
import unittest

from heldtogether.granted import answers
from tests.lines import (all_answered, answer, ask, back, begin, both, counts, each_by_itself, either, finish, follows,
                         if_then, last, last_parts, lay, learn, letter, line, not_of, nth, propose, state, truth)


class WholeLists(unittest.TestCase):
    def test_one_letter(self):
        calls = [0, 1, 2, 20, 13, 2, 13, 1, 14, 0, 14, 1, 15, 1, 16, 1, 3, 17, 1, 2, 18, 2, 1, 19, 1, 3, 19, 3, 1, 11,
                 12, 1, 0, 1, 1, 11, 12, 1, 0, 12, 1, 1, 12, 1, 2, 12, 0, 0, 12, 0, 1, 12, 2, 0, 20]
        self.assertEqual(answers(calls), [
            1, 1,                # begin: it's known to be so
            2, 1, 2,             # state: one letter, one known world
            1, 1,                # truth of "it's so"
            1, 0,                # truth of "it isn't so"
            1, 2,                # letter 0
            1, -2,               # letter 1: there's none
            1, 2,                # not "it isn't so"
            1, 1,                # both "it isn't so" and always
            1, 3,                # either
            1, 1,                # if it's so, it isn't so: it isn't so
            1, 1,                # always follows of "it isn't so"
            1, 0,                # not the other way round
            1, -6,               # counts: nothing is laid down
            1, -6,               # nth likewise
            1, 0,                # lay "it isn't so": known not to be so
            3, 2, 2, 0,          # counts
            1, 1, 1, 3, 1, -33,  # conceded are 1 and 3
            1, 0, 1, 2,          # denied are 0 and 2
            1, -33,              # none is doubted
            4, 1, 2, 1, 0,       # state: something is laid down, nothing was proposed
        ])

    def test_two_letters(self):
        calls = line(begin(2, 10), letter(0), letter(1), letter(2), lay(12), counts(), nth(1, 0), nth(1, 5), nth(1, 6),
                     nth(0, 5), nth(2, 0), nth(2, 3), nth(2, 4), propose(10), counts(), nth(1, 0), nth(1, 7), nth(2, 0),
                     state(), truth(10), truth(12), truth(5), not_of(10), both(10, 12), either(10, 12), if_then(10, 12),
                     follows(8, 10), follows(10, 8), back(), learn(2), counts(), nth(1, 0), state(), finish(), state())
        self.assertEqual(answers(calls), [
            1, 2,                        # A is known to be so, B isn't known
            1, 10, 1, 12, 1, -2,
            1, 2,                        # lay B
            3, 6, 6, 4,                  # conceded 10 to 15, denied 0 to 5, doubted 6 to 9
            1, 10, 1, 15, 1, -33,
            1, 5,
            1, 6, 1, 9, 1, -33,
            3, 1, 0, 1,                  # A: known to be so
            3, 8, 8, 0,                  # one world stands
            1, 8, 1, 15, 1, -33,
            4, 2, 10, 12, 1,
            1, 1, 1, 2, 1, 0,
            1, 5, 1, 8, 1, 14, 1, 13,
            1, 1, 1, 0,
            1, 0,
            1, 1,                        # just A is so, by what is known
            3, 8, 8, 0,
            1, 6,
            4, 2, 2, 12, 0,
            3, 0, 0, 0,
            2, 2, 2,
        ])

    def test_three_letters(self):
        calls = line(begin(3, 255), state(), letter(0), letter(1), letter(2), letter(3), if_then(170, 204), lay(221),
                     counts(), nth(1, 0), nth(1, 1), nth(1, 2), nth(1, 3), nth(1, 4), nth(0, 0), nth(0, 1), nth(0, 2),
                     nth(0, 3), nth(0, 4), nth(2, 0), nth(2, 1), nth(2, 247), nth(2, 248), truth(221), truth(255),
                     truth(0), not_of(170), both(170, 204), either(204, 240), follows(128, 136), follows(136, 128),
                     learn(160), truth(170), truth(85), truth(204), propose(170), state(), counts(), nth(1, 0))
        self.assertEqual(answers(calls), [
            1, 8,
            2, 3, 255,
            1, 170, 1, 204, 1, 240, 1, -2,
            1, 221,                              # if A, then B
            1, 2,
            3, 4, 4, 248,                        # only what follows is conceded, as all worlds are known
            1, 221, 1, 223, 1, 253, 1, 255, 1, -33,
            1, 0, 1, 2, 1, 32, 1, 34, 1, -33,
            1, 1, 1, 3, 1, 254, 1, -33,
            1, 2, 1, 1, 1, 0,
            1, 85, 1, 136, 1, 252,
            1, 1, 1, 0,
            1, 2,                                # A and C become known
            1, 1, 1, 0, 1, 2,
            3, 1, 0, 2,
            4, 3, 160, 221, 1,
            3, 96, 96, 64,                       # 136 stands, 160 is known, the world 7 is in both
            1, 136,
        ])


class Propositions(unittest.TestCase):
    def test_letter_is_so_in_the_worlds_whose_number_counts_it(self):
        for m in (1, 2, 3):
            for i in range(m):
                so = sum(2 ** w for w in range(2 ** m) if w >> i & 1)
                self.assertEqual(last(begin(m, 1), letter(i)), [so])

    def test_all_pairs_world_by_world(self):
        for m in (1, 2, 3):
            worlds = range(2 ** m)
            numbers = range(2 ** 2 ** m) if m < 3 else [0, 1, 2, 15, 85, 128, 129, 170, 204, 240, 254, 255]
            for p, q in itertools.product(numbers, repeat=2):
                told = ask(begin(m, 1), not_of(p), both(p, q), either(p, q), if_then(p, q), follows(p, q))[1:]
                pairs = [(p >> w & 1, q >> w & 1) for w in worlds]
                self.assertEqual(told, [
                    [sum(2 ** w for w in worlds if not pairs[w][0])],
                    [sum(2 ** w for w in worlds if pairs[w] == (1, 1))],
                    [sum(2 ** w for w in worlds if pairs[w] != (0, 0))],
                    [sum(2 ** w for w in worlds if pairs[w] != (1, 0))],
                    [0 if (1, 0) in pairs else 1]])

    def test_what_is_so_always_and_never(self):
        for m, always in ((1, 3), (2, 15), (3, 255)):
            for p in range(always + 1):
                told = ask(begin(m, 1), follows(p, always), follows(0, p), follows(p, p), if_then(p, p), if_then(0, p),
                           if_then(p, 0), both(p, always), either(p, 0), truth(always), truth(0))[1:]
                self.assertEqual(told, [[1], [1], [1], [always], [always], [always - p], [p], [p], [1], [0]])

    def test_truth_is_by_what_is_known_alone(self):
        before = (begin(2, 10), lay(5), propose(12), propose(11))
        self.assertEqual(ask(*before, truth(10), truth(5), truth(12), learn(8), truth(12), truth(3))[4:],
                         [[1], [0], [2], [1], [1], [0]])

    def test_truth_of_every_proposition(self):
        for known in range(1, 16):
            told = last_parts(begin(2, known), *[truth(p) for p in range(16)])
            for p in range(16):
                here = {p >> w & 1 for w in range(4) if known >> w & 1}
                self.assertEqual(told[p], [here.pop() if len(here) == 1 else 2])

    def test_follows_goes_from_the_first_to_the_second(self):
        self.assertEqual(ask(begin(2, 1), follows(8, 10), follows(10, 8), follows(10, 12))[1:], [[1], [0], [0]])

    def test_follows_is_not_by_what_is_known_or_stands(self):
        self.assertEqual(ask(begin(2, 8), lay(8), follows(10, 12), follows(12, 8), follows(15, 8))[2:], [[0], [0], [0]])


class WhenNothingIsLaidDown(unittest.TestCase):
    def test_these_answer_the_same_before_lay_after_lay_and_after_finish(self):
        asked = (truth(10), truth(12), truth(5), letter(0), letter(1), letter(2), not_of(6), both(10, 12), either(10, 12),
                 if_then(10, 12), follows(8, 10), follows(10, 8), truth(16), not_of(16), both(1, 16), follows(16, 1))
        expected = [[1], [2], [0], [10], [12], [-2], [9], [8], [14], [13], [1], [0], [-22], [-22], [-22], [-22]]
        for before in (line(begin(2, 10)), line(begin(2, 10), lay(5)), line(begin(2, 10), lay(5), propose(12)),
                       line(begin(2, 10), lay(5), propose(12), finish())):
            self.assertEqual(last_parts(before, *asked), expected)

    def test_counts_and_nth_do_not(self):
        for before in (line(begin(2, 10)), line(begin(2, 10), lay(5), propose(12), finish()),
                       line(begin(2, 10), lay(5), propose(12), begin(2, 10)), line(begin(2, 10), lay(0))):
            self.assertEqual(last_parts(before, counts(), nth(0, 0), nth(1, 0), nth(2, 0)), [[-6]] * 4)


class State(unittest.TestCase):
    def test_from_begin_to_begin(self):
        told = ask(begin(2, 10), state(), lay(12), state(), propose(6), state(), propose(10), state(), back(), state(),
                   learn(2), state(), back(), state(), finish(), state(), learn(3), state(), lay(1), state(),
                   begin(3, 129), state(), lay(255), state(), begin(1, 3), state())
        self.assertEqual(told[1::2], [[2, 10], [2, 10, 12, 0], [2, 10, 12, 1], [2, 10, 12, 2], [2, 10, 12, 1],
                                      [2, 2, 12, 1], [2, 2, 12, 0], [2, 2], [2, 2], [2, 2, 1, 0], [3, 129],
                                      [3, 129, 255, 0], [1, 3]])

    def test_what_was_laid_down_stays_while_what_stands_narrows(self):
        self.assertEqual(last(begin(2, 8), lay(15), propose(10), propose(12), state()), [2, 8, 15, 2])

    def test_up_to_twenty(self):
        told = ask(begin(1, 3), lay(3), *[propose(2)] * 20, state(), propose(2), state())
        self.assertEqual(told[-3:], [[1, 3, 3, 20], [-28], [1, 3, 3, 20]])

    def test_every_begin_and_lay(self):
        for m, top in ((1, 4), (2, 16), (3, 256)):
            for k in range(1, top):
                self.assertEqual(ask(begin(m, k), state(), lay(top - k), state())[1::2],
                                 [[m, k], [m, k, top - k, 0]])


class CountsAndNth(unittest.TestCase):
    def agree(self, top, before):
        told = [part[0] for part in each_by_itself(before, [answer(p) for p in range(top)])]
        found = {a: [p for p in range(top) if told[p] == a] for a in (0, 1, 2)}
        numbers = last_parts(before, counts())[0]
        self.assertEqual(numbers, [len(found[1]), len(found[0]), len(found[2])])
        self.assertEqual(sum(numbers), top)
        self.assertEqual(numbers[0], numbers[1])
        for a in (0, 1, 2):
            self.assertEqual(all_answered(before, a), found[a], (before, a))

    def test_one_letter(self):
        for known, laid, p in itertools.product(range(1, 4), range(1, 4), range(4)):
            self.agree(4, line(begin(1, known), lay(laid), propose(p)))

    def test_two_letters(self):
        for known, laid in itertools.product(range(1, 16), repeat=2):
            for more in ([], [propose(10)], [propose(6), propose(10), back()], [propose(12), learn(known & -known)]):
                self.agree(16, line(begin(2, known), lay(laid), *more))

    def test_three_letters(self):
        for known, laid in ((255, 221), (160, 221), (129, 126), (1, 254), (15, 240), (7, 255), (64, 64)):
            for more in ([], [propose(170)], [propose(170), propose(204), back()], [propose(240), learn(known & -known)]):
                self.agree(256, line(begin(3, known), lay(laid), *more))

    def test_what_is_known_and_what_stands_cannot_go_together(self):
        # "B" stands, just A is known: what doesn't matter to it is answered as it's known, against B or not.
        before = line(begin(2, 2), lay(12))
        self.assertEqual(last_parts(before, counts()), [[8, 8, 0]])
        self.assertEqual(all_answered(before, 1), [6, 7, 10, 11, 12, 13, 14, 15])
        self.assertEqual(all_answered(before, 0), [0, 1, 2, 3, 4, 5, 8, 9])
        self.assertEqual(all_answered(before, 2), [])

    def test_one_letter_of_which_nothing_is_known(self):
        before = line(begin(1, 3), lay(3))
        self.assertEqual(last_parts(before, counts()), [[1, 1, 2]])
        self.assertEqual([all_answered(before, a) for a in (1, 0, 2)], [[3], [0], [1, 2]])

    def test_most_that_can_be_doubted(self):
        before = line(begin(3, 255), lay(255))
        self.assertEqual(last_parts(before, counts(), nth(2, 0), nth(2, 253), nth(2, 254), nth(1, 0), nth(1, 1),
                                    nth(0, 0), nth(0, 1)), [[1, 1, 254], [1], [254], [-33], [255], [-33], [0], [-33]])

    def test_they_go_with_what_is_proposed_taken_back_and_learnt(self):
        told = ask(begin(2, 10), lay(12), counts(), propose(10), counts(), back(), counts(), learn(2), counts(), finish(),
                   counts(), lay(15), counts())
        self.assertEqual(told[2::2], [[6, 6, 4], [8, 8, 0], [6, 6, 4], [8, 8, 0], [-6], [8, 8, 0]])


if __name__ == "__main__":
    unittest.main()
