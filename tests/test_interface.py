"""How calls and answers stand in their lists, and that nothing is changed or kept."""

import unittest

from heldtogether.granted import answers
from tests.lines import (answer, back, begin, both, counts, either, finish, follows, if_then, lay, learn, letter, line,
                         log, matters, not_of, nth, propose, row, stands, state, taken_apart, truth)

HIGHEST = 4294967295

# Sixty calls of all kinds, with what is answered to each.
SIXTY = (
    (stands(), [-11]), (state(), [-11]), (letter(0), [-11]), (begin(4, 1), [-22]), (counts(), [-11]),
    (begin(2, 10), [2]), (state(), [2, 10]), (letter(0), [10]), (letter(1), [12]), (letter(2), [-2]),
    (letter(HIGHEST), [-2]), (truth(10), [1]), (truth(12), [2]), (truth(HIGHEST), [-22]), (counts(), [-6]),
    (nth(1, 0), [-6]), (nth(3, 0), [-22]), (log(), [0]), (lay(0), [-33]), (lay(12), [2]),
    (state(), [2, 10, 12, 0]), (lay(12), [-17]), (counts(), [6, 6, 4]), (nth(1, 0), [10]), (nth(0, 5), [5]),
    (nth(2, 3), [9]), (nth(2, HIGHEST), [-33]), (nth(HIGHEST, 0), [-22]), (answer(10), [1, 0]), (answer(6), [2, 0]),
    (matters(10), [0]), (matters(14), [1]), (row(6, 10, 6), [3, 2, 1, 0]), (row(*[HIGHEST] * 255), [-22]),
    (stands(), [2, 12]), (propose(6), [2, 0, 2]), (propose(10), [1, 0, 1]), (propose(HIGHEST), [-22]),
    (stands(), [1, 8]), (counts(), [8, 8, 0]), (nth(1, 7), [15]), (not_of(6), [9]), (not_of(HIGHEST), [-22]),
    (both(6, 10), [2]), (both(HIGHEST, 0), [-22]), (either(6, 10), [14]), (either(0, HIGHEST), [-22]),
    (if_then(6, 10), [11]), (if_then(HIGHEST, HIGHEST), [-22]), (follows(2, 6), [1]), (follows(6, 2), [0]),
    (follows(6, HIGHEST), [-22]), (log(), [2, 6, 2, 10, 1]), (back(), [1]), (learn(2), [1]), (learn(5), [-33]),
    (state(), [2, 2, 12, 1]), (counts(), [8, 8, 0]), (finish(), [1, 0, 0]), (state(), [2, 2]))

MIXED = line(*[call for call, _ in SIXTY])


class Lists(unittest.TestCase):
    def test_the_empty_list(self):
        self.assertEqual(answers([]), [])

    def test_sixty_calls_of_all_kinds(self):
        self.assertEqual(len(SIXTY), 60)
        self.assertEqual({call[0] for call, _ in SIXTY}, set(range(21)))
        self.assertEqual(taken_apart(answers(MIXED)), [told for _, told in SIXTY])

    def test_every_beginning_of_them(self):
        for many in range(61):
            some = SIXTY[:many]
            self.assertEqual(taken_apart(answers(line(*[call for call, _ in some]))), [told for _, told in some])

    def test_sixty_calls(self):
        calls = line(begin(2, 15), lay(15), *[propose(10)] * 20, *[back()] * 20, *[stands()] * 18)
        told = answers(calls)
        expected = [1, 4, 1, 1] + [3, 2, 0, 4] * 20
        for left in range(19, -1, -1):
            expected += [1, left]
        self.assertEqual(told, expected + [2, 4, 15] * 18)

    def test_the_longest_line(self):
        calls = line(begin(3, 255), lay(255), *[row(*[HIGHEST] * 255)] * 58)
        self.assertLessEqual(len(calls), 15500)
        self.assertEqual(answers(calls), [1, 8, 1, 1] + [1, -22] * 58)

    def test_sixty_calls_before_a_begin(self):
        self.assertEqual(answers(row(*[HIGHEST] * 255) * 60), [1, -11] * 60)

    def test_the_highest_numbers(self):
        calls = line(begin(HIGHEST, HIGHEST), begin(3, HIGHEST), begin(HIGHEST, 1), begin(3, 255), lay(HIGHEST),
                     learn(HIGHEST), lay(255), propose(HIGHEST), answer(HIGHEST), matters(HIGHEST), row(HIGHEST),
                     row(1, HIGHEST), stands())
        self.assertEqual(answers(calls), [1, -22] * 3 + [1, 8] + [1, -22] * 2 + [1, 1] + [1, -22] * 5 + [2, 8, 255])

    def test_the_highest_numbers_of_the_asking_calls(self):
        asked = (nth(0, HIGHEST), nth(HIGHEST, 0), nth(HIGHEST, HIGHEST), truth(HIGHEST), letter(HIGHEST),
                 not_of(HIGHEST), both(HIGHEST, 0), both(0, HIGHEST), either(HIGHEST, 0), either(0, HIGHEST),
                 if_then(HIGHEST, 0), if_then(0, HIGHEST), follows(HIGHEST, 0), follows(0, HIGHEST), state())
        told = answers(line(begin(3, 255), lay(255), *asked))
        self.assertEqual(told, [1, 8, 1, 1, 1, -33] + [1, -22] * 3 + [1, -2] + [1, -22] * 9 + [4, 3, 255, 255, 0])

    def test_numbers_of_calls_within_a_row_are_not_taken_for_calls(self):
        self.assertEqual(answers(line(begin(3, 1), lay(1), row(0, 1, 2, 3, 4, 5, 6, 7, 8, 9, 10), stands())),
                         [1, 1, 1, 1, 12, 11, 0, 1, 0, 1, 0, 1, 0, 1, 0, 1, 0, 2, 1, 1])


class Unchangeable(list):
    """A list that notices a change even if it is undone later."""

    def refuse(self, *given):
        raise AssertionError("what is handed in was changed")

    append = extend = insert = pop = remove = clear = sort = reverse = refuse
    __setitem__ = __delitem__ = __iadd__ = __imul__ = refuse


class NothingKept(unittest.TestCase):
    def test_what_is_handed_in_is_not_changed_for_a_while_either(self):
        self.assertEqual(answers(Unchangeable(MIXED)), answers(MIXED))

    def test_what_is_handed_in_stays(self):
        handed_in = list(MIXED)
        answers(handed_in)
        self.assertEqual(handed_in, MIXED)

    def test_two_runs_answer_the_same(self):
        first = answers(list(MIXED))
        self.assertEqual(answers(list(MIXED)), first)
        self.assertEqual(answers(list(MIXED)), first)

    def test_each_time_the_object_is_new(self):
        answers(line(begin(2, 15), lay(15), propose(10)))
        self.assertEqual(answers(log()), [1, -11])
        self.assertEqual(answers(line(begin(2, 15), log(), stands())), [1, 4, 1, 0, 1, -6])

    def test_what_was_given_back_may_be_changed(self):
        first = answers(list(MIXED))
        expected = list(first)
        first.clear()
        self.assertEqual(answers(list(MIXED)), expected)


class Kinds(unittest.TestCase):
    def test_a_list_of_whole_numbers_never_true_or_false(self):
        told = answers(list(MIXED))
        self.assertIs(type(told), list)
        self.assertEqual({type(number) for number in told}, {int})
        self.assertIs(type(answers([])), list)


if __name__ == "__main__":
    unittest.main()
