"""Each call at ordinary inputs, worked out by hand.

One letter: the worlds are 0 (it isn't so) and 1; 1 is "it isn't so", 2 "it's so", 3 always.
Two letters, A and B: A is 10, B is 12. Three letters: A is 170, B is 204, C is 240.
"""

import unittest

from heldtogether.granted import answers
from tests.lines import answer, ask, back, begin, finish, last, lay, learn, line, log, matters, propose, row, stands


class WholeLists(unittest.TestCase):
    def test_one_letter(self):
        calls = [0, 1, 1, 1, 2, 2, 2, 2, 1, 10, 8, 6, 3, 9, 3, 7, 2, 0, 3, 3, 5, 3, 4, 10]
        self.assertEqual(answers(calls), [
            1, 1,                # begin: one known world, the letter isn't so
            1, 0,                # lay "it's so": known not to be so
            3, 1, 1, 1,          # propose "it's so": conceded, follows, one world
            3, 0, 2, 1,          # propose "it isn't so": denied, against, one world
            5, 2, 2, 1, 1, 0,    # log
            2, 1, 2,             # stands
            2, 1, 1,             # answer to always
            1, 1,                # matters
            3, 2, 0, 1,          # row of never and always
            1, 1,                # back
            1, 1,                # learn nothing new
            3, 1, 1, 0,          # finish: one conceded that is known not to be so
            1, 0,                # log: nothing
        ])

    def test_two_letters(self):
        calls = line(begin(2, 10), lay(5), propose(12), propose(10), propose(11), propose(12), stands(), log(),
                     learn(8), answer(12), matters(12), row(1, 14), back(), finish())
        self.assertEqual(answers(calls), [
            1, 2,                                # A is known to be so, B isn't known
            1, 0,                                # lay "A isn't so"
            3, 2, 0, 2,                          # B: doubted
            3, 0, 2, 2,                          # A: against it
            3, 1, 0, 1,                          # "A, or B isn't so": known to be so, B falls
            3, 0, 2, 1,                          # B: now against it
            2, 1, 1,                             # neither is so
            9, 4, 12, 2, 10, 0, 11, 1, 12, 0,
            1, 1,                                # both are so
            2, 0, 2,
            1, 1,
            3, 2, 1, 0,
            1, 3,
            3, 3, 0, 1,                          # A was denied, and is known to be so
        ])

    def test_three_letters(self):
        calls = line(begin(3, 255), lay(221), propose(170), learn(160), propose(170), propose(204), propose(240),
                     stands(), row(170, 204, 240, 15), answer(51), matters(255), log(), back(), matters(240),
                     stands(), learn(32), finish(), stands())
        self.assertEqual(answers(calls), [
            1, 8,
            1, 2,                                # lay "if A, then B"
            3, 2, 0, 6,                          # A: doubted
            1, 2,                                # A and C become known
            3, 1, 0, 2,                          # A: conceded now
            3, 1, 1, 2,                          # B follows
            3, 1, 0, 1,                          # C: known to be so
            2, 1, 128,
            5, 4, 1, 1, 1, 0,
            2, 0, 2,                             # "B isn't so": against it
            1, 1,
            9, 4, 170, 2, 170, 1, 204, 1, 240, 1,
            1, 3,
            1, 0,                                # C doesn't matter any more
            2, 2, 136,
            1, 1,                                # B is known not to be so
            3, 3, 1, 0,
            1, -6,
        ])


class EachCall(unittest.TestCase):
    def test_begin_tells_how_many_worlds_are_known(self):
        self.assertEqual(ask(begin(1, 1)), [[1]])
        self.assertEqual(ask(begin(1, 3)), [[2]])
        self.assertEqual(ask(begin(2, 15)), [[4]])
        self.assertEqual(ask(begin(2, 8)), [[1]])
        self.assertEqual(ask(begin(3, 255)), [[8]])
        self.assertEqual(ask(begin(3, 128 + 1)), [[2]])

    def test_lay_tells_what_is_known_of_it(self):
        self.assertEqual(last(begin(2, 10), lay(10)), [1])
        self.assertEqual(last(begin(2, 10), lay(5)), [0])
        self.assertEqual(last(begin(2, 10), lay(12)), [2])
        self.assertEqual(last(begin(3, 160), lay(240)), [1])
        self.assertEqual(last(begin(3, 160), lay(64)), [0])
        self.assertEqual(last(begin(3, 160), lay(128)), [2])
        self.assertEqual(last(begin(1, 3), lay(2)), [2])

    def test_propose_what_follows(self):
        self.assertEqual(last(begin(2, 1), lay(8), propose(10)), [1, 1, 1])

    def test_propose_what_is_against_it(self):
        self.assertEqual(last(begin(2, 1), lay(8), propose(5)), [0, 2, 1])

    def test_propose_what_does_not_matter(self):
        self.assertEqual(last(begin(2, 8), lay(15), propose(10)), [1, 0, 2])
        self.assertEqual(last(begin(2, 1), lay(14), propose(10)), [0, 0, 1])
        self.assertEqual(last(begin(2, 9), lay(15), propose(10)), [2, 0, 4])

    def test_denied_leaves_the_worlds_in_which_it_is_not_so(self):
        self.assertEqual(last(begin(2, 1), lay(14), propose(10), stands()), [1, 4])

    def test_back_restores_what_stood(self):
        self.assertEqual(ask(begin(2, 8), lay(15), propose(10), propose(12), back(), stands(), log(), back(), stands()),
                         [[1], [1], [1, 0, 2], [1, 0, 1], [1], [2, 10], [1, 10, 1], [0], [4, 15]])

    def test_finish_counts_both_kinds(self):
        told = ask(begin(2, 1), lay(8), propose(10), propose(12), propose(8), propose(1), propose(5), propose(15),
                   propose(0), finish())
        self.assertEqual(told[-1], [7, 3, 2])

    def test_finish_with_nothing_proposed(self):
        self.assertEqual(last(begin(2, 1), lay(8), finish()), [0, 0, 0])

    def test_learn_keeps_the_known_worlds_that_are_in_it_too(self):
        self.assertEqual(ask(begin(3, 15), learn(60), learn(255), learn(8), learn(7)), [[4], [2], [2], [1], [-33]])

    def test_learn_changes_what_does_not_matter(self):
        self.assertEqual(ask(begin(2, 15), lay(15), answer(10), learn(10), answer(10), learn(8), answer(3)),
                         [[4], [1], [2, 0], [2], [1, 0], [1], [0, 0]])

    def test_answer_proposes_nothing(self):
        self.assertEqual(ask(begin(2, 8), lay(15), answer(10), answer(5), stands(), log())[2:],
                         [[1, 0], [0, 0], [4, 15], [0]])

    def test_answer_what_follows_and_what_is_against_it(self):
        self.assertEqual(ask(begin(3, 1), lay(136), answer(170), answer(85), answer(240))[2:],
                         [[1, 1], [0, 2], [0, 0]])

    def test_row_answers_by_what_was_answered_before_in_it(self):
        self.assertEqual(last(begin(2, 1), lay(14), row(10, 4, 12, 8)), [4, 0, 1, 1, 0])
        self.assertEqual(ask(begin(2, 1), lay(14), answer(4), answer(12))[2:], [[0, 0], [0, 0]])

    def test_matters(self):
        self.assertEqual(ask(begin(2, 1), lay(8), matters(10), matters(5))[2:], [[1], [1]])
        self.assertEqual(ask(begin(2, 1), lay(12), matters(10), matters(5), matters(12), matters(3))[2:],
                         [[0], [0], [1], [1]])

    def test_log_keeps_the_order_and_what_was_doubted(self):
        self.assertEqual(last(begin(2, 10), lay(15), propose(12), propose(5), propose(10), log()),
                         [3, 12, 2, 5, 0, 10, 1])


if __name__ == "__main__":
    unittest.main()
