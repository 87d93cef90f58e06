"""What the document promises over the whole program, over drawn lists of calls."""

import random
import unittest

from tests.drawn import some_asking, some_call, some_calls
from tests.lines import (LOOK, all_answered, answer, ask, back, begin, both, counts, each_by_itself, finish, last_parts,
                         lay, learn, line, log, not_of, nth, propose, stands, state, truth)


def drawn(seed, many, most=30):
    """Pairs of how many propositions there are and a line; what it began with may be over by its end."""
    dice = random.Random(seed)
    for _ in range(many):
        calls = some_calls(dice, dice.choice([1, 2, 3]), most)
        letters = last_parts(line(*calls), state())[0][0]
        yield 2 ** 2 ** letters, calls


def drawn_with_something_laid(seed, many, most=30):
    for top, calls in drawn(seed, many, most):
        if last_parts(line(*calls), stands())[0] != [-6]:
            yield top, line(*calls)


def pairs_of(told):
    return list(zip(told[1::2], told[2::2]))


class NeverCaught(unittest.TestCase):
    def test_all_that_was_granted_can_go_together(self):
        for top, before in drawn_with_something_laid(1, 600, 56):
            where, proposed, standing = last_parts(before, state(), log(), stands())
            together = where[2]
            for p, given in pairs_of(proposed):
                together &= {1: p, 0: top - 1 - p, 2: top - 1}[given]
            self.assertGreater(together, 0, before)
            self.assertEqual(standing, [bin(together).count("1"), together], before)

    def test_so_by_both_and_not_as_well(self):
        for _, before in drawn_with_something_laid(2, 60):
            where, proposed, standing = last_parts(before, state(), log(), stands())
            together = where[2]
            for p, given in pairs_of(proposed):
                if given == 0:
                    p = last_parts(before, not_of(p))[0][0]
                if given != 2:
                    together = last_parts(before, both(together, p))[0][0]
            self.assertEqual(together, standing[1])

    def test_who_answers_otherwise_is_caught_at_once(self):
        # Of what follows the opposite can't go together with what stands, of what's against it itself can't;
        # of what doesn't matter both can.
        for top, before in drawn_with_something_laid(3, 60):
            standing = last_parts(before, stands())[0][1]
            told = each_by_itself(before, [answer(p) for p in range(0, top, 3)])
            for p, (_, bears) in zip(range(0, top, 3), told):
                opposite = last_parts(before, not_of(p))[0][0]
                so, not_so = last_parts(before, both(standing, p), both(standing, opposite))
                self.assertEqual((so == [0], not_so == [0]), (bears == 2, bears == 1))


class EverAfter(unittest.TestCase):
    def steps(self, seed, many):
        """Lines in which nothing is taken back, finished or begun again: some proposed, some learnt, some refused."""
        dice = random.Random(seed)
        for _ in range(many):
            m = dice.choice([1, 2, 3])
            top = 2 ** 2 ** m
            calls = [begin(m, dice.randrange(1, top)), lay(dice.randrange(1, top))]
            for _ in range(8):
                n = dice.randrange(top)
                calls.append(dice.choice([propose(n), propose(n), propose(n), learn(n), lay(n), propose(top)]))
            yield top, calls

    def test_what_was_conceded_with_all_that_follows_of_it(self):
        for top, calls in self.steps(4, 60):
            told = ask(*calls)
            conceded = []
            for at in range(2, len(calls)):
                if calls[at][0] == 2 and told[at][0] == 1:
                    conceded.append(calls[at][1])
                so_now = all_answered(line(*calls[:at + 1]), 1)
                for p in conceded + [calls[1][1]]:
                    self.assertLessEqual({q for q in range(top) if q & p == p}, set(so_now), (calls, at, p))

    def test_what_was_denied_with_all_of_which_it_follows(self):
        for top, calls in self.steps(5, 60):
            told = ask(*calls)
            denied = []
            for at in range(2, len(calls)):
                if calls[at][0] == 2 and told[at][0] == 0:
                    denied.append(calls[at][1])
                not_so_now = all_answered(line(*calls[:at + 1]), 0)
                for p in denied:
                    self.assertLessEqual({q for q in range(top) if q & p == q}, set(not_so_now), (calls, at, p))

    def test_of_what_is_in_the_log_at_the_end_of_any_line(self):
        for _, before in drawn_with_something_laid(6, 300, 50):
            for p, given in pairs_of(last_parts(before, log())[0]):
                if given != 2:
                    self.assertEqual(last_parts(before, answer(p)), [[given, {1: 1, 0: 2}[given]]])


class AsItIsKnown(unittest.TestCase):
    def test_nothing_known_not_to_be_so_is_conceded(self):
        seen = 0
        for _, before in drawn_with_something_laid(7, 200):
            where, standing = last_parts(before, state(), stands())
            if where[1] & standing[1] == 0:
                continue
            seen += 1
            for a, never in ((1, 0), (0, 1)):
                told = each_by_itself(before, [truth(p) for p in all_answered(before, a)])
                self.assertNotIn([never], told, before)
        self.assertGreater(seen, 20)

    def test_where_they_cannot_go_together_it_may_be(self):
        self.assertEqual(ask(begin(2, 10), lay(5), truth(5), answer(5), truth(10), answer(10))[2:],
                         [[0], [1, 1], [1], [0, 2]])


class Opposites(unittest.TestCase):
    def test_the_opposite_of_what_is_conceded_is_denied(self):
        for top, before in drawn_with_something_laid(8, 120):
            opposites = [part[0] for part in each_by_itself(before, [not_of(p) for p in range(0, top, 3)])]
            told = each_by_itself(before, [answer(p) for p in range(0, top, 3)])
            told_of_opposites = each_by_itself(before, [answer(p) for p in opposites])
            self.assertEqual([[{1: 0, 0: 1, 2: 2}[a], {1: 2, 2: 1, 0: 0}[bears]] for a, bears in told],
                             told_of_opposites)

    def test_as_many_are_conceded_as_denied_and_all_are_counted(self):
        for top, before in drawn_with_something_laid(9, 600, 58):
            conceded, denied, doubted = last_parts(before, counts())[0]
            self.assertEqual(conceded, denied)
            self.assertEqual(conceded + denied + doubted, top)

    def test_the_last_denied_is_the_opposite_of_the_first_conceded(self):
        for top, before in drawn_with_something_laid(10, 100):
            many = last_parts(before, counts())[0][0]
            first, end = last_parts(before, nth(1, 0), nth(0, many - 1))
            self.assertEqual(first[0] + end[0], top - 1)


class NothingChanges(unittest.TestCase):
    def test_by_what_is_refused(self):
        refused = set()
        for _, calls in drawn(11, 150):
            told = ask(*calls)
            for at in range(2, len(calls)):
                if told[at][0] < 0:
                    refused.add((calls[at][0], told[at][0]))
                    self.assertEqual(len(told[at]), 1)
                    self.assertEqual(last_parts(line(*calls[:at]), *LOOK), last_parts(line(*calls[:at + 1]), *LOOK))
        self.assertLessEqual({(0, -22), (1, -22), (1, -17), (2, -22), (5, -22), (6, -22), (7, -22), (9, -22), (12, -22),
                              (12, -33), (13, -22), (14, -2), (15, -22), (16, -22), (17, -22), (18, -22), (19, -22)},
                             refused)

    def test_by_what_is_only_asked(self):
        for _, calls in drawn(12, 150):
            told = ask(*calls)
            for at in range(2, len(calls)):
                if calls[at][0] in range(6, 21):
                    self.assertEqual(last_parts(line(*calls[:at]), *LOOK), last_parts(line(*calls[:at + 1]), *LOOK))
                    self.assertEqual(ask(*calls[:at], *calls[at + 1:]), told[:at] + told[at + 1:])

    def test_by_the_ten_calls_wherever_they_stand_between(self):
        dice = random.Random(13)
        for _ in range(300):
            m = dice.choice([1, 2, 3])
            calls = some_calls(dice, m, 28)
            mixed = [both_of for call in calls for both_of in (call, some_asking(dice, m))]
            self.assertEqual(ask(*mixed)[::2], ask(*calls))

    def test_back_takes_back_just_what_was_proposed_last(self):
        for top, before in drawn_with_something_laid(14, 150):
            looked = last_parts(before, *LOOK)
            if looked[0][3] < 20:
                self.assertEqual(last_parts(before, propose(top // 3), back(), *LOOK)[2:], looked)

    def test_finish_leaves_the_letters_and_what_is_known(self):
        for _, before in drawn_with_something_laid(15, 100):
            where = last_parts(before, state())[0]
            told = last_parts(before, finish(), *LOOK)
            self.assertEqual(told[0][0], where[3])
            self.assertEqual(told[1:], [where[:2], [-6], [0], [-6]])


class EachStep(unittest.TestCase):
    def test_what_propose_tells_is_what_answer_told_before(self):
        for top, before in drawn_with_something_laid(16, 100):
            if last_parts(before, state())[0][3] < 20:
                for p in range(0, top, 7):
                    asked, told, standing = last_parts(before, answer(p), propose(p), stands())
                    self.assertEqual(told, asked + standing[:1])

    def test_drawn_lines_hold_every_kind_of_call(self):
        dice = random.Random(17)
        self.assertEqual({some_call(dice, 2)[0] for _ in range(2000)}, set(range(21)))


if __name__ == "__main__":
    unittest.main()
