"""The interface: one list of calls in, one list of counted answers out."""

import unittest

from boardfence.brush import answers
from calls import ask, begin, judge, largest, places, raising, strokes

SEVERAL = [1, 0, 0,
           0, 0, 1, 3, 1, 3, 1,
           1, 0, 0,
           2, 2, 1, 2, 0,
           2, 2, 3, 2, 0,
           3, 2, 2, 3, 0,
           3, 2, 4, 3, 0,
           4, 0, 0,
           5, 0, 0,
           5, 0, 2, 4, 0, 1, 0, 2, 2, 1, 1,
           5, 0, 3, 0, 2, 1, 1, 1, 0,
           5, 0, 2, 2, 1, 0, 2, 1, 3,
           0, 0, 1, 0,
           0, 0, 1, 1, 2,
           1, 0, 0]
ANSWERED = [1, -9,
            1, 0,
            3, 3, 0, 3,
            3, 2, 1, 0,
            1, 0,
            2, 2, 0,
            1, -6,
            7, 2, 0, 1, 0, 2, 1, 1,
            3, 5, 0, 1,
            2, 0, 0,
            1, -1,
            2, -3, 1,
            1, -1,
            1, 0,
            3, 2, 0, 1]


class Answers(unittest.TestCase):
    def test_several_calls(self):
        self.assertEqual(answers(list(SEVERAL)), ANSWERED)

    def test_what_is_handed_in_is_not_changed(self):
        handed = list(SEVERAL)
        answers(handed)
        self.assertEqual(handed, SEVERAL)

    def test_nothing_is_kept(self):
        first = answers(list(SEVERAL))
        self.assertEqual(answers(list(SEVERAL)), first)
        self.assertEqual(answers(largest()), [1, -9])

    def test_an_answer_that_is_changed_changes_no_other(self):
        answers(list(SEVERAL)).clear()
        self.assertEqual(answers(list(SEVERAL)), ANSWERED)

    def test_a_list_of_whole_numbers_is_given_back(self):
        told = answers(list(SEVERAL))
        self.assertIs(type(told), list)
        for number in told:
            self.assertIs(type(number), int)

    def test_a_line_of_60_calls(self):
        calls = [begin(*[8] * 8)] + [judge(*[[0, 8, 0, 7]] * 20)] * 59
        self.assertEqual(ask(*calls), [[0]] + [[56, 0, 1]] * 59)

    def test_questions_leave_the_fence(self):
        questions = [largest(), places(2, 2), raising(3, 8), strokes(), judge([1, 0]), judge([]), raising(0, 0)]
        told = ask(begin(2, 7, 1, 3), *questions, *questions)
        self.assertEqual(told[1:8], told[8:])


if __name__ == "__main__":
    unittest.main()
