"""The corners that the document names, and the ways back, out and in again."""

import unittest

from tests.lines import (LOOK, all_answered, answer, ask, back, begin, both, counts, finish, follows, if_then, last,
                         last_parts, lay, learn, letter, line, log, matters, not_of, nth, propose, row, stands, state,
                         truth)


class Corners(unittest.TestCase):
    def test_laid_down_what_is_known_not_to_be_so(self):
        self.assertEqual(ask(begin(2, 10), lay(5), propose(5), propose(10), propose(3), stands()),
                         [[2], [0], [1, 1, 2], [0, 2, 2], [2, 0, 2], [2, 5]])

    def test_one_world_that_stands(self):
        for known in range(1, 16):
            for p in range(16):
                so = p >> 2 & 1
                self.assertEqual(ask(begin(2, known), lay(4), propose(p), answer(p), matters(p), stands())[2:],
                                 [[so, 1 if so else 2, 1], [so, 1 if so else 2], [1], [1, 4]])

    def test_so_always_or_never(self):
        for m, always in ((1, 3), (2, 15), (3, 255)):
            for laid in range(1, always + 1):
                told = ask(begin(m, 1), lay(laid), propose(always), propose(0), matters(always), matters(0), stands())
                worlds = bin(laid).count("1")
                self.assertEqual(told[2:], [[1, 1, worlds], [0, 2, worlds], [1], [1], [worlds, laid]])

    def test_laid_down_what_is_so_always(self):
        self.assertEqual(ask(begin(2, 6), lay(15), propose(6), propose(9), propose(2)),
                         [[2], [1], [1, 0, 2], [0, 2, 2], [2, 0, 2]])

    def test_the_same_proposed_twice(self):
        self.assertEqual(ask(begin(2, 8), lay(15), propose(10), propose(10), log())[2:],
                         [[1, 0, 2], [1, 1, 2], [2, 10, 1, 10, 1]])
        self.assertEqual(ask(begin(2, 1), lay(15), propose(10), propose(10), log())[2:],
                         [[0, 0, 2], [0, 2, 2], [2, 10, 0, 10, 0]])
        self.assertEqual(ask(begin(2, 9), lay(15), propose(10), propose(10), log())[2:],
                         [[2, 0, 4], [2, 0, 4], [2, 10, 2, 10, 2]])

    def test_one_doubted_that_follows_later(self):
        # "A, or B" is laid down; A is doubted, B is denied, and then A follows.
        self.assertEqual(ask(begin(2, 3), lay(14), propose(10), propose(12), propose(10), log())[2:],
                         [[2, 0, 3], [0, 0, 1], [1, 1, 1], [3, 10, 2, 12, 0, 10, 1]])

    def test_one_doubted_that_is_against_it_later(self):
        # "A and B aren't both so" is laid down; A is doubted, B is conceded, and then A is against it.
        self.assertEqual(ask(begin(2, 12), lay(7), propose(10), propose(12), propose(10))[2:],
                         [[2, 0, 3], [1, 0, 1], [0, 2, 1]])

    def test_the_order_in_which_they_are_proposed_matters(self):
        # "A and B aren't both so" is laid down while both are known to be so.
        self.assertEqual(ask(begin(2, 8), lay(7), propose(10), propose(12))[2:], [[1, 0, 1], [0, 2, 1]])
        self.assertEqual(ask(begin(2, 8), lay(7), propose(12), propose(10))[2:], [[1, 0, 1], [0, 2, 1]])

    def test_what_is_learnt_between(self):
        # The answers that were given stay, what stands does too; what doesn't matter is answered anew.
        told = ask(begin(2, 15), lay(15), propose(10), learn(10), stands(), log(), propose(10), learn(8), propose(12),
                   log(), stands())
        self.assertEqual(told[2:], [[2, 0, 4], [2], [4, 15], [1, 10, 2], [1, 0, 2], [1], [1, 0, 1],
                                    [3, 10, 2, 10, 1, 12, 1], [1, 8]])

    def test_what_was_denied_stays_denied_though_it_is_learnt(self):
        told = ask(begin(2, 15), lay(5), propose(10), learn(10), propose(10), finish())
        self.assertEqual(told[2:], [[0, 2, 2], [2], [0, 2, 2], [2, 0, 2]])

    def test_back_behind_a_learn_leaves_what_was_learnt(self):
        told = ask(begin(2, 15), lay(15), propose(10), propose(12), learn(8), back(), back(), stands(), propose(10))
        self.assertEqual(told[2:], [[2, 0, 4], [2, 0, 4], [1], [1], [0], [4, 15], [1, 0, 2]])

    def test_back_behind_a_learn_keeps_the_earlier_answers(self):
        told = ask(begin(2, 15), lay(15), propose(10), propose(15), learn(2), back(), stands(), log())
        self.assertEqual(told[2:], [[2, 0, 4], [1, 1, 4], [1], [1], [4, 15], [1, 10, 2]])

    def test_one_letter(self):
        self.assertEqual(ask(begin(1, 2), lay(1), propose(0), propose(1), propose(2), propose(3), finish()),
                         [[1], [0], [0, 2, 1], [1, 1, 1], [0, 2, 1], [1, 1, 1], [4, 1, 1]])
        self.assertEqual(ask(begin(1, 2), lay(3), propose(1), propose(2), stands()),
                         [[1], [1], [0, 0, 1], [1, 1, 1], [1, 2]])


class CornersAsked(unittest.TestCase):
    """The same corners, looked at with counts, nth, truth, state and their like."""

    def test_laid_down_what_is_known_not_to_be_so(self):
        # "A isn't so" stands, A is known: what doesn't matter is so or not by the worlds 1 and 3.
        before = line(begin(2, 10), lay(5))
        self.assertEqual(last_parts(before, truth(5), truth(10), counts(), state()),
                         [[0], [1], [6, 6, 4], [2, 10, 5, 0]])
        self.assertEqual([all_answered(before, a) for a in (1, 0, 2)],
                         [[5, 7, 11, 13, 14, 15], [0, 1, 2, 4, 8, 10], [3, 6, 9, 12]])

    def test_one_world_that_stands(self):
        for m, many in ((1, 2), (2, 4), (3, 8)):
            half = 2 ** many // 2
            for world in range(many):
                for known in (1, 2 ** many - 1):
                    before = line(begin(m, known), lay(2 ** world))
                    self.assertEqual(last_parts(before, counts(), nth(1, 0), nth(1, half - 1), nth(1, half), nth(0, 0),
                                                nth(0, half), nth(2, 0)),
                                     [[half, half, 0], [2 ** world], [2 * half - 1], [-33], [0], [-33], [-33]])

    def test_so_always_is_conceded_last_and_so_never_denied_first(self):
        for m, always in ((1, 3), (2, 15), (3, 255)):
            for laid in range(1, always + 1):
                before = line(begin(m, 1), lay(laid))
                conceded = last_parts(before, counts())[0][0]
                self.assertEqual(last_parts(before, nth(1, conceded - 1), nth(1, conceded), nth(0, 0), truth(always),
                                            truth(0), not_of(always), not_of(0), follows(always, laid)),
                                 [[always], [-33], [0], [1], [0], [0], [always], [1 if laid == always else 0]])

    def test_laid_down_what_is_so_always(self):
        # Nothing but what is known counts then: 6 is known.
        before = line(begin(2, 6), lay(15))
        self.assertEqual(last_parts(before, counts(), state()), [[4, 4, 8], [2, 6, 15, 0]])
        self.assertEqual([all_answered(before, a) for a in (1, 0)], [[6, 7, 14, 15], [0, 1, 8, 9]])

    def test_the_same_proposed_twice(self):
        for known in (8, 1, 9):
            once = last_parts(line(begin(2, known), lay(15), propose(10)), counts(), stands(), state())
            twice = last_parts(line(begin(2, known), lay(15), propose(10), propose(10)), counts(), stands(), state())
            self.assertEqual(twice[:2], once[:2])
            self.assertEqual((once[2], twice[2]), ([2, known, 15, 1], [2, known, 15, 2]))

    def test_one_doubted_that_follows_later(self):
        before = line(begin(2, 3), lay(14), propose(10))
        self.assertIn(10, all_answered(before, 2))
        self.assertEqual(last_parts(before, counts()), [[5, 5, 6]])
        later = before + propose(12)
        self.assertIn(10, all_answered(later, 1))
        self.assertEqual(last_parts(later, counts(), state()), [[8, 8, 0], [2, 3, 14, 2]])

    def test_what_is_learnt_between(self):
        told = ask(begin(2, 15), lay(15), propose(10), counts(), truth(10), learn(10), counts(), truth(10), state(),
                   propose(10), counts(), learn(8), counts(), truth(12), state(), learn(5), counts(), state())
        self.assertEqual(told[2:], [[2, 0, 4], [1, 1, 14], [2], [2], [4, 4, 8], [1], [2, 10, 15, 1], [1, 0, 2],
                                    [4, 4, 8], [1], [8, 8, 0], [1], [2, 8, 15, 2], [-33], [8, 8, 0], [2, 8, 15, 2]])

    def test_learn_when_nothing_is_laid_down(self):
        self.assertEqual(ask(begin(2, 15), truth(10), learn(10), truth(10), state(), learn(5), state(), counts())[1:],
                         [[2], [2], [1], [2, 10], [-33], [2, 10], [-6]])

    def test_the_twenty_first(self):
        before = line(begin(2, 12), lay(7), *[propose(10)] * 19, propose(12))
        looked = last_parts(before, *LOOK)
        self.assertEqual(looked[0], [2, 12, 7, 20])
        self.assertEqual(looked[3], [8, 8, 0])
        self.assertEqual(last_parts(before, propose(10), *LOOK), [[-28]] + looked)
        self.assertEqual(last_parts(before, back(), state(), counts()), [[19], [2, 12, 7, 19], [5, 5, 6]])

    def test_one_letter(self):
        self.assertEqual(ask(begin(1, 3), letter(0), letter(1), not_of(2), both(1, 2), if_then(2, 1), lay(3), counts(),
                             learn(2), counts(), nth(1, 0), nth(0, 1), state())[1:],
                         [[2], [-2], [1], [0], [1], [1], [1, 1, 2], [1], [2, 2, 0], [2], [1], [1, 2, 3, 0]])

    def test_laid_down_by_what_was_made_of_letters(self):
        # "If A, then B" and A: B follows.
        a, b = [part[0] for part in last_parts(begin(2, 15), letter(0), letter(1))]
        implies = last_parts(begin(2, 15), if_then(a, b))[0][0]
        joined = last_parts(begin(2, 15), both(implies, a))[0][0]
        self.assertEqual(ask(begin(2, 15), follows(joined, b), follows(implies, b), lay(joined), propose(b))[1:],
                         [[1], [0], [2], [1, 1, 1]])


class BackAndAgain(unittest.TestCase):
    def test_down_to_nothing_and_propose_again(self):
        told = ask(begin(2, 8), lay(15), propose(10), propose(5), propose(12), back(), back(), back(), back(), stands(),
                   log(), propose(12), stands(), log())
        self.assertEqual(told[2:], [[1, 0, 2], [0, 2, 2], [1, 0, 1], [2], [1], [0], [-6], [4, 15], [0], [1, 0, 2],
                                    [2, 12], [1, 12, 1]])

    def test_finish_and_lay_again(self):
        told = ask(begin(2, 8), lay(7), propose(10), finish(), log(), lay(9), stands(), log(), back(), propose(10),
                   stands())
        self.assertEqual(told[1:], [[0], [1, 0, 1], [1, 0, 0], [0], [1], [2, 9], [0], [-6], [1, 0, 1], [1, 8]])

    def test_finish_leaves_what_is_known(self):
        self.assertEqual(ask(begin(2, 15), lay(15), learn(3), finish(), lay(1), finish(), lay(3), finish(), learn(12)),
                         [[4], [1], [2], [0, 0, 0], [2], [0, 0, 0], [1], [0, 0, 0], [-33]])

    def test_finish_counts_by_what_is_known_then(self):
        before = line(begin(2, 15), lay(5), propose(5), propose(10), propose(12))
        self.assertEqual(last_parts(before, finish()), [[3, 0, 0]])
        self.assertEqual(last_parts(before, learn(10), finish()), [[2], [3, 1, 1]])
        self.assertEqual(last_parts(before, learn(5), finish()), [[2], [3, 0, 0]])

    def test_finish_counts_those_that_were_taken_back_no_more(self):
        self.assertEqual(last(begin(2, 1), lay(8), propose(10), propose(5), back(), finish()), [1, 1, 0])

    def test_log_when_nothing_is_laid_down(self):
        self.assertEqual(ask(begin(2, 8), log(), lay(7), propose(10), finish(), log(), back()),
                         [[1], [0], [0], [1, 0, 1], [1, 0, 0], [0], [-6]])


class Rows(unittest.TestCase):
    def test_of_none(self):
        self.assertEqual(ask(begin(2, 1), lay(8), row(), stands()), [[1], [0], [0], [1, 8]])

    def test_of_sixteen(self):
        # All propositions of two letters, rising, while the one world 2 stands.
        self.assertEqual(last(begin(2, 1), lay(4), row(*range(16))),
                         [16, 0, 0, 0, 0, 1, 1, 1, 1, 0, 0, 0, 0, 1, 1, 1, 1])

    def test_of_too_many_the_next_call_is_still_read_rightly(self):
        self.assertEqual(ask(begin(2, 1), lay(4), row(*[0] * 17), stands(), row(*[10] * 255), log())[2:],
                         [[-22], [1, 4], [-22], [0]])

    def test_leaves_the_object_as_it_was(self):
        before = line(begin(3, 129), lay(126), propose(170))
        look = (stands(), log(), answer(204), answer(15))
        self.assertEqual(last_parts(before, row(204, 240, 15, 1, 2, 4, 8, 16, 32, 64, 128), *look)[1:],
                         last_parts(before, *look))

    def test_answers_what_propose_would(self):
        lists = ((10, 12, 5, 3), (12, 10, 6, 9, 8), tuple(range(16)), tuple(range(15, -1, -1)), (6, 6, 9, 9, 10, 10))
        for known in range(1, 16):
            for laid in range(1, 16):
                before = line(begin(2, known), lay(laid), propose(6))
                for l in lists:
                    one_by_one = [told[0] for told in last_parts(before, *[propose(p) for p in l])]
                    self.assertEqual(last_parts(before, row(*l)), [[len(l)] + one_by_one])


if __name__ == "__main__":
    unittest.main()
