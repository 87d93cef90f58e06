"""How calls and answers stand in their lists, and that nothing is changed or kept."""

import unittest

from heldtogether.granted import answers
from tests.lines import answer, back, begin, finish, lay, learn, line, log, matters, propose, row, stands

HIGHEST = 4294967295

MIXED = line(stands(), begin(2, 10), lay(5), propose(12), propose(10), row(1, 2, 3), answer(11), matters(11), stands(),
             log(), learn(2), back(), lay(0), row(*[HIGHEST] * 255), propose(HIGHEST), finish(), log(), lay(6), stands())


class Lists(unittest.TestCase):
    def test_the_empty_list(self):
        self.assertEqual(answers([]), [])

    def test_sixty_calls(self):
        calls = line(begin(2, 15), lay(15), *[propose(10)] * 20, *[back()] * 20, *[stands()] * 18)
        told = answers(calls)
        expected = [1, 4, 1, 1] + [3, 2, 0, 4] * 20
        for left in range(19, -1, -1):
            expected += [1, left]
        self.assertEqual(told, expected + [2, 4, 15] * 18)

    def test_the_longest_line(self):
        calls = line(begin(3, 255), lay(255), *[row(*[HIGHEST] * 255)] * 58)
        self.assertLessEqual(len(calls), 15500)
        self.assertEqual(answers(calls), [1, 8, 1, 1] + [1, -22] * 58)

    def test_sixty_calls_before_a_begin(self):
        self.assertEqual(answers(row(*[HIGHEST] * 255) * 60), [1, -11] * 60)

    def test_the_highest_numbers(self):
        calls = line(begin(HIGHEST, HIGHEST), begin(3, HIGHEST), begin(HIGHEST, 1), begin(3, 255), lay(HIGHEST),
                     learn(HIGHEST), lay(255), propose(HIGHEST), answer(HIGHEST), matters(HIGHEST), row(HIGHEST),
                     row(1, HIGHEST), stands())
        self.assertEqual(answers(calls), [1, -22] * 3 + [1, 8] + [1, -22] * 2 + [1, 1] + [1, -22] * 5 + [2, 8, 255])

    def test_numbers_of_calls_within_a_row_are_not_taken_for_calls(self):
        self.assertEqual(answers(line(begin(3, 1), lay(1), row(0, 1, 2, 3, 4, 5, 6, 7, 8, 9, 10), stands())),
                         [1, 1, 1, 1, 12, 11, 0, 1, 0, 1, 0, 1, 0, 1, 0, 1, 0, 2, 1, 1])


class NothingKept(unittest.TestCase):
    def test_what_is_handed_in_stays(self):
        handed_in = list(MIXED)
        answers(handed_in)
        self.assertEqual(handed_in, MIXED)

    def test_two_runs_answer_the_same(self):
        first = answers(list(MIXED))
        self.assertEqual(answers(list(MIXED)), first)
        self.assertEqual(answers(list(MIXED)), first)

    def test_each_time_the_object_is_new(self):
        answers(line(begin(2, 15), lay(15), propose(10)))
        self.assertEqual(answers(log()), [1, -11])
        self.assertEqual(answers(line(begin(2, 15), log(), stands())), [1, 4, 1, 0, 1, -6])

    def test_what_was_given_back_may_be_changed(self):
        first = answers(list(MIXED))
        expected = list(first)
        first.clear()
        self.assertEqual(answers(list(MIXED)), expected)


class Kinds(unittest.TestCase):
    def test_a_list_of_whole_numbers_never_true_or_false(self):
        told = answers(list(MIXED))
        self.assertIs(type(told), list)
        self.assertEqual({type(number) for number in told}, {int})
        self.assertIs(type(answers([])), list)


if __name__ == "__main__":
    unittest.main()
