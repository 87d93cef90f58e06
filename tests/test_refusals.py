"""Each refusal of each call, which one comes first, and that what's refused changes nothing."""

import unittest

from heldtogether.granted import answers
from tests.lines import (LOOK, answer, ask, back, begin, both, counts, either, finish, follows, if_then, last,
                         last_parts, lay, learn, letter, line, log, matters, not_of, nth, propose, row, stands, state,
                         truth)

HIGHEST = 4294967295

# For each number of letters the first number that isn't a proposition, and some above it.
NO_PROPOSITIONS = {1: (4, 5, 15, 256, HIGHEST), 2: (16, 17, 255, 256, HIGHEST), 3: (256, 257, 65536, HIGHEST)}
HIGHEST_PROPOSITION = {1: 3, 2: 15, 3: 255}

WRONG_BEGINS = ([0, 0, 1], [0, 0, 0], [0, 4, 1], [0, 5, 1], [0, HIGHEST, 1], [0, HIGHEST, HIGHEST], [0, 1, 0],
                [0, 2, 0], [0, 3, 0], [0, 1, 4], [0, 2, 16], [0, 3, 256], [0, 1, HIGHEST], [0, 2, HIGHEST],
                [0, 3, HIGHEST])

ASKING = (counts(), nth(0, 0), nth(1, HIGHEST), nth(3, 0), nth(HIGHEST, HIGHEST), truth(1), truth(HIGHEST), letter(0),
          letter(3), letter(HIGHEST), not_of(1), not_of(HIGHEST), both(1, 1), both(HIGHEST, HIGHEST), either(1, 1),
          either(HIGHEST, HIGHEST), if_then(1, 1), if_then(HIGHEST, HIGHEST), follows(1, 1), follows(HIGHEST, HIGHEST),
          state())

BUT_BEGIN = (lay(1), lay(0), lay(HIGHEST), propose(1), propose(HIGHEST), back(), finish(), learn(1), learn(0),
             learn(HIGHEST), answer(1), answer(HIGHEST), row(), row(1, 2), row(*[HIGHEST] * 255), stands(), matters(1),
             matters(HIGHEST), log()) + ASKING


class BeforeABegin(unittest.TestCase):
    def test_every_other_call_answers_so(self):
        for call in BUT_BEGIN:
            with self.subTest(call=call[:4]):
                self.assertEqual(answers(call), [1, -11])

    def test_all_in_one_line(self):
        self.assertEqual(answers(line(*BUT_BEGIN)), [1, -11] * len(BUT_BEGIN))

    def test_it_is_every_call(self):
        self.assertEqual({call[0] for call in BUT_BEGIN}, set(range(1, 21)))

    def test_the_call_behind_it_is_read_rightly(self):
        for call in BUT_BEGIN:
            with self.subTest(call=call[:4]):
                self.assertEqual(ask(call, begin(1, 3), log()), [[-11], [2], [0]])

    def test_a_begin_that_was_refused_does_not_count(self):
        for wrong in WRONG_BEGINS:
            for call in BUT_BEGIN:
                with self.subTest(wrong=wrong, call=call[:4]):
                    self.assertEqual(answers(wrong + call), [1, -22, 1, -11])

    def test_a_begin_after_a_refused_one(self):
        self.assertEqual(ask(lay(1), begin(0, 1), lay(1), begin(1, 1), lay(1)), [[-11], [-22], [-11], [1], [1]])


class Begin(unittest.TestCase):
    def test_refused(self):
        for wrong in WRONG_BEGINS:
            with self.subTest(wrong=wrong):
                self.assertEqual(answers(wrong), [1, -22])

    def test_k_is_measured_by_the_new_letters(self):
        self.assertEqual(ask(begin(3, 255), begin(1, 4), begin(1, 3), begin(3, 255), begin(2, 15)),
                         [[8], [-22], [2], [8], [4]])

    def test_refused_later_it_leaves_the_object_as_it_was(self):
        before = line(begin(2, 10), lay(5), propose(12), propose(11))
        for wrong in WRONG_BEGINS:
            with self.subTest(wrong=wrong):
                self.assertEqual(last_parts(before, wrong, state(), stands(), log(), answer(15), answer(16), learn(2)),
                                 [[-22], [2, 10, 5, 2], [1, 1], [2, 12, 2, 11, 1], [1, 1], [-22], [1]])

    def test_again_it_forgets_all(self):
        told = ask(begin(2, 10), lay(5), propose(12), begin(1, 3), stands(), back(), log(), finish(), propose(1), lay(4),
                   lay(3), propose(2))
        self.assertEqual(told[3:], [[2], [-6], [-6], [0], [-6], [-6], [-22], [1], [2, 0, 2]])


class NotAProposition(unittest.TestCase):
    def test_refused_and_the_highest_one_is_not(self):
        for m, wrong_ones in NO_PROPOSITIONS.items():
            high = HIGHEST_PROPOSITION[m]
            for make in (lay, propose, learn, answer, matters, row):
                before = begin(m, 1) if make in (lay, learn) else line(begin(m, 1), lay(1))
                with self.subTest(m=m, call=make.__name__):
                    self.assertGreaterEqual(last_parts(before, make(high))[0][0], 0)
                    for wrong in wrong_ones:
                        self.assertEqual(last_parts(before, make(wrong)), [[-22]])

    def test_of_the_calls_that_need_nothing_laid_down(self):
        for m, wrong_ones in NO_PROPOSITIONS.items():
            high = HIGHEST_PROPOSITION[m]
            for before in (begin(m, 1), line(begin(m, 1), lay(1), propose(high))):
                for make in (truth, not_of):
                    self.assertGreaterEqual(last_parts(before, make(high))[0][0], 0)
                    for wrong in wrong_ones:
                        with self.subTest(m=m, call=make.__name__, wrong=wrong):
                            self.assertEqual(last_parts(before, make(wrong)), [[-22]])

    def test_either_of_two(self):
        for m, wrong_ones in NO_PROPOSITIONS.items():
            high = HIGHEST_PROPOSITION[m]
            for before in (begin(m, 1), line(begin(m, 1), lay(1), propose(high))):
                for make in (both, either, if_then, follows):
                    self.assertGreaterEqual(last_parts(before, make(high, high))[0][0], 0)
                    for wrong in wrong_ones:
                        with self.subTest(m=m, call=make.__name__, wrong=wrong):
                            told = last_parts(before, make(wrong, 0), make(wrong, high), make(0, wrong),
                                              make(high, wrong), make(wrong, wrong))
                            self.assertEqual(told, [[-22]] * 5)

    def test_comes_before_nothing_is_laid_down(self):
        for m, wrong_ones in NO_PROPOSITIONS.items():
            for make in (propose, answer, matters, row):
                with self.subTest(m=m, call=make.__name__):
                    self.assertEqual(last(begin(m, 1), make(wrong_ones[0])), [-22])
                    self.assertEqual(last(begin(m, 1), make(HIGHEST_PROPOSITION[m])), [-6])

    def test_comes_before_something_is_laid_down(self):
        self.assertEqual(ask(begin(2, 1), lay(15), lay(16), lay(HIGHEST), lay(15))[2:], [[-22], [-22], [-17]])

    def test_comes_before_too_many(self):
        told = ask(begin(2, 1), lay(15), *[propose(15)] * 20, propose(16), propose(15))
        self.assertEqual(told[-2:], [[-22], [-28]])

    def test_learn_of_what_is_not_one_though_it_shares_a_known_world(self):
        self.assertEqual(ask(begin(1, 3), learn(7), learn(4), learn(3)), [[2], [-22], [-22], [2]])


class Lay(unittest.TestCase):
    def test_something_is_laid_down(self):
        self.assertEqual(ask(begin(2, 1), lay(6), lay(6), lay(9), stands()), [[1], [0], [-17], [-17], [2, 6]])

    def test_something_is_laid_down_comes_before_no_world(self):
        self.assertEqual(ask(begin(2, 1), lay(6), lay(0)), [[1], [0], [-17]])

    def test_no_world(self):
        for m in (1, 2, 3):
            self.assertEqual(ask(begin(m, 1), lay(0), stands(), lay(1)), [[1], [-33], [-6], [1]])


class NothingLaidDown(unittest.TestCase):
    def test_each_call_that_needs_it(self):
        for call in (propose(1), propose(0), back(), finish(), answer(1), row(), row(1), row(*[3] * 16), stands(),
                     matters(0), matters(3), counts(), nth(0, 0), nth(1, 0), nth(2, 0), nth(2, HIGHEST)):
            with self.subTest(call=call):
                self.assertEqual(ask(begin(1, 3), call), [[2], [-6]])
                self.assertEqual(last(begin(1, 3), lay(3), propose(3), finish(), call), [-6])

    def test_log_and_learn_do_not_need_it(self):
        self.assertEqual(ask(begin(1, 3), log(), learn(1), log()), [[2], [0], [1], [0]])


class Back(unittest.TestCase):
    def test_nothing_was_proposed(self):
        self.assertEqual(ask(begin(1, 3), back(), lay(3), back(), propose(2), back(), back()),
                         [[2], [-6], [1], [-6], [2, 0, 2], [0], [-6]])


class Learn(unittest.TestCase):
    def test_no_world_would_be_known(self):
        self.assertEqual(ask(begin(2, 3), learn(0), learn(12), learn(2), learn(1), learn(3)),
                         [[2], [-33], [-33], [1], [-33], [1]])


class Row(unittest.TestCase):
    def test_more_than_sixteen(self):
        before = line(begin(3, 255), lay(255))
        for count in (17, 18, 100, 255):
            self.assertEqual(last_parts(before, row(*[0] * count), stands()), [[-22], [8, 255]])

    def test_more_than_sixteen_while_nothing_is_laid_down(self):
        self.assertEqual(last(begin(3, 255), row(*[0] * 17)), [-22])
        self.assertEqual(last(begin(3, 255), row(*[0] * 255)), [-22])
        self.assertEqual(last(begin(3, 255), row(*[0] * 16)), [-6])

    def test_one_that_is_not_a_proposition_wherever_it_stands(self):
        for at in range(16):
            l = [1] * 16
            l[at] = 256
            self.assertEqual(last(begin(3, 255), lay(255), row(*l)), [-22])
            self.assertEqual(last(begin(3, 255), row(*l)), [-22])


class Nth(unittest.TestCase):
    def test_no_such_answer(self):
        for a in (3, 4, 255, HIGHEST):
            for k in (0, 1, 5, HIGHEST):
                self.assertEqual(last(begin(2, 10), lay(12), nth(a, k)), [-22])

    def test_no_such_answer_comes_before_nothing_is_laid_down(self):
        for a in (3, HIGHEST):
            for k in (0, HIGHEST):
                self.assertEqual(last(begin(2, 10), nth(a, k)), [-22])
                self.assertEqual(last(begin(2, 10), lay(12), finish(), nth(a, k)), [-22])

    def test_nothing_is_laid_down_comes_before_there_is_none(self):
        for a in (0, 1, 2):
            for k in (0, 15, 16, HIGHEST):
                self.assertEqual(last(begin(2, 10), nth(a, k)), [-6])
                self.assertEqual(last(begin(2, 10), lay(12), finish(), nth(a, k)), [-6])

    def test_there_is_none(self):
        before = line(begin(2, 10), lay(12))
        for a, many in ((0, 6), (1, 6), (2, 4)):
            self.assertGreaterEqual(last_parts(before, nth(a, many - 1))[0][0], 0)
            for k in (many, many + 1, 15, 16, 255, 256, HIGHEST):
                with self.subTest(a=a, k=k):
                    self.assertEqual(last_parts(before, nth(a, k)), [[-33]])

    def test_k_is_no_proposition_here(self):
        # With one letter, 4 and above aren't propositions; as the place of one they are just too far.
        self.assertEqual(ask(begin(1, 3), lay(3), nth(2, 1), nth(2, 2), nth(2, 4), nth(2, 16), nth(2, HIGHEST))[2:],
                         [[2], [-33], [-33], [-33], [-33]])

    def test_none_is_doubted(self):
        self.assertEqual(ask(begin(3, 1), lay(128), nth(2, 0), nth(2, 1), nth(2, HIGHEST))[2:], [[-33]] * 3)


class Letter(unittest.TestCase):
    def test_there_is_none(self):
        for m in (1, 2, 3):
            for before in (begin(m, 1), line(begin(m, 1), lay(1))):
                self.assertGreater(last_parts(before, letter(m - 1))[0][0], 0)
                for i in (m, m + 1, 3, 4, 8, 64, 256, HIGHEST):
                    self.assertEqual(last_parts(before, letter(i)), [[-2]])

    def test_it_goes_by_the_last_begin(self):
        self.assertEqual(ask(begin(3, 1), letter(2), begin(1, 1), letter(2), letter(1), letter(0), begin(0, 1), letter(0),
                             begin(2, 1), letter(1), letter(0)),
                         [[1], [240], [1], [-2], [-2], [2], [-22], [2], [1], [12], [10]])


class TooMany(unittest.TestCase):
    def test_the_twenty_first(self):
        told = ask(begin(2, 15), lay(15), *[propose(10)] * 20, propose(10), log(), back(), propose(12), propose(12),
                   finish())
        self.assertEqual(told[21], [2, 0, 4])
        self.assertEqual(told[22:], [[-28], [20] + [10, 2] * 20, [19], [2, 0, 4], [-28], [20, 0, 0]])

    def test_while_nothing_is_laid_down_it_is_not_that(self):
        self.assertEqual(last(begin(1, 3), lay(3), *[propose(3)] * 20, finish(), propose(3)), [-6])

    def test_answer_and_row_go_on(self):
        told = ask(begin(2, 15), lay(15), *[propose(10)] * 20, answer(15), row(*[15] * 16), matters(15))
        self.assertEqual(told[-3:], [[1, 1], [16] + [1] * 16, [1]])


class NothingChanges(unittest.TestCase):
    def test_refused_while_something_is_laid_down(self):
        before = line(begin(2, 10), lay(7), propose(12), propose(14))
        refused = (begin(0, 1), begin(2, 0), begin(1, 4), lay(16), lay(0), lay(7), propose(16), propose(HIGHEST),
                   learn(16), learn(0), learn(5), answer(16), row(1, 16), row(*[2] * 17), matters(16), nth(3, 0),
                   nth(2, HIGHEST), truth(16), letter(2), not_of(16), both(1, 16), both(16, 1), either(1, 16),
                   either(16, 1), if_then(1, 16), if_then(16, 1), follows(1, 16), follows(16, 1))
        look = LOOK + (row(2, 4, 10, 12),)
        expected = last_parts(before, *look)
        for call in refused:
            with self.subTest(call=call):
                told = last_parts(before, call, *look)
                self.assertEqual(len(told[0]), 1)
                self.assertLess(told[0][0], 0)
                self.assertEqual(told[1:], expected)

    def test_refused_while_nothing_is_laid_down(self):
        refused = (begin(4, 1), lay(0), lay(16), propose(1), back(), finish(), learn(5), answer(1), row(1), stands(),
                   matters(1), counts(), nth(3, 0), nth(0, 0), truth(16), letter(2), not_of(16), both(16, 1),
                   either(1, 16), if_then(16, 16), follows(HIGHEST, 0))
        look = LOOK + (lay(12), propose(10)) + LOOK
        expected = last_parts(begin(2, 10), *look)
        for call in refused:
            with self.subTest(call=call):
                told = last_parts(begin(2, 10), call, *look)
                self.assertLess(told[0][0], 0)
                self.assertEqual(told[1:], expected)

    def test_refused_as_too_many(self):
        before = line(begin(2, 15), lay(15), *[propose(10)] * 20)
        self.assertEqual(last_parts(before, propose(15), *LOOK), [[-28]] + last_parts(before, *LOOK))


if __name__ == "__main__":
    unittest.main()
