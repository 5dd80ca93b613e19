"""The interface: one list of calls in, one list of counted answers out."""

import unittest

from boardfence.brush import answers
from calls import ask, begin, board, hang, judge, largest, look, places, raising, seen, strokes, swap

SEVERAL = [1, 0, 0,
           0, 0, 1, 3, 1, 3, 1,
           1, 0, 0,
           2, 2, 1, 2, 0,
           2, 2, 3, 2, 0,
           3, 2, 2, 3, 0,
           3, 2, 4, 3, 0,
           4, 0, 0,
           5, 0, 0,
           5, 0, 2, 4, 0, 1, 0, 2, 2, 1, 1,
           5, 0, 3, 0, 2, 1, 1, 1, 0,
           5, 0, 2, 2, 1, 0, 2, 1, 3,
           0, 0, 1, 0,
           0, 0, 1, 1, 2,
           1, 0, 0,
           10, 0, 0]
ANSWERED = [1, -9,
            1, 0,
            3, 3, 0, 3,
            3, 2, 1, 0,
            1, 0,
            2, 2, 0,
            1, -6,
            7, 2, 0, 1, 0, 2, 1, 1,
            3, 5, 0, 1,
            2, 0, 0,
            1, -1,
            2, -3, 1,
            1, -1,
            1, 0,
            3, 2, 0, 1,
            2, 1, 2]

# All eleven kinds, written out, with what is answered to each beside it.
EACH_KIND = (([0, 0, 1, 3, 2, 1, 2], [1, 0]),
             ([1, 0, 0], [3, 3, 0, 3]),
             ([6, 1, 0, 0], [2, 1, 0]),
             ([9, 2, 2, 2, 0], [1, 1]),
             ([2, 2, 3, 1, 0], [3, 2, 0, 0]),
             ([3, 2, 1, 3, 0], [2, 1, 0]),
             ([4, 0, 0], [9, 2, 0, 1, 0, 2, 0, 2, 0, 2]),
             ([7, 2, 2, 5, 0], [1, 2]),
             ([5, 0, 3, 2, 1, 2, 4, 0, 1, 0, 1, 4, 0, 2, 0, 1], [2, 0, 0]),
             ([8, 2, 0, 2, 0], [1, 0]),
             ([6, 1, 1, 0], [3, 2, 2, 0]),
             ([10, 0, 0], [4, 3, 5, 2, 2]))
ALL_KINDS = [number for call, told in EACH_KIND for number in call]
ALL_TOLD = [number for call, told in EACH_KIND for number in told]

EVERY_CALL_BUT_BEGIN = (largest(), places(1, 1), raising(1, 1), strokes(), judge([1, 0]), seen(0), board(0, 1),
                        swap(0, 0), hang(1, 1), look())


class Untouchable(list):
    """A list that can't be changed, not for a while either."""

    def refuse(self, *handed):
        raise AssertionError("what is handed in was changed")

    __setitem__ = __delitem__ = __iadd__ = __imul__ = refuse
    append = clear = extend = insert = pop = remove = reverse = sort = refuse


class Answers(unittest.TestCase):
    def test_several_calls(self):
        self.assertEqual(answers(list(SEVERAL)), ANSWERED)

    def test_all_kinds_of_calls(self):
        self.assertEqual(answers(list(ALL_KINDS)), ALL_TOLD)
        for call, told in EACH_KIND[1:]:
            self.assertEqual(answers(call + ALL_KINDS), [1, -9] + ALL_TOLD)

    def test_60_calls_of_all_kinds(self):
        self.assertEqual(answers(ALL_KINDS * 5), ALL_TOLD * 5)

    def test_what_is_handed_in_is_not_changed(self):
        handed = list(SEVERAL)
        answers(handed)
        self.assertEqual(handed, SEVERAL)
        handed = list(ALL_KINDS)
        answers(handed)
        self.assertEqual(handed, ALL_KINDS)

    def test_not_for_a_while_either(self):
        self.assertEqual(answers(Untouchable(SEVERAL)), ANSWERED)
        self.assertEqual(answers(Untouchable(ALL_KINDS)), ALL_TOLD)

    def test_nothing_is_kept(self):
        first = answers(list(SEVERAL))
        self.assertEqual(answers(list(SEVERAL)), first)
        for call in EVERY_CALL_BUT_BEGIN:
            with self.subTest(call=call):
                self.assertEqual(answers(list(ALL_KINDS)), ALL_TOLD)
                self.assertEqual(answers(call), [1, -9])

    def test_an_answer_that_is_changed_changes_no_other(self):
        answers(list(SEVERAL)).clear()
        self.assertEqual(answers(list(SEVERAL)), ANSWERED)

    def test_a_list_of_whole_numbers_is_given_back(self):
        for calls in (SEVERAL, ALL_KINDS):
            told = answers(list(calls))
            self.assertIs(type(told), list)
            for number in told:
                self.assertIs(type(number), int)

    def test_a_line_of_60_calls(self):
        calls = [begin(*[8] * 8)] + [judge(*[[0, 8, 0, 7]] * 20)] * 59
        self.assertEqual(ask(*calls), [[0]] + [[56, 0, 1]] * 59)

    def test_the_longest_line(self):
        self.assertEqual(ask(*[judge(*[[0, 8, 0, 7, 7]] * 20)] * 60), [[-9]] * 60)
        calls = [begin(1, 2)] + [judge(*[[0, 8, 0, 7, 7]] * 20)] * 58 + [look()]
        self.assertEqual(ask(*calls), [[0]] + [[-1]] * 58 + [[2, 1, 2]])

    def test_questions_leave_the_fence(self):
        questions = [largest(), places(2, 2), raising(3, 8), strokes(), judge([1, 0]), judge([]), raising(0, 0),
                     seen(0), seen(1), seen(2), look()]
        told = ask(begin(2, 7, 1, 3), *questions, *questions)
        self.assertEqual(told[1:12], told[12:])
        self.assertEqual(told[-1], [4, 2, 7, 1, 3])


if __name__ == "__main__":
    unittest.main()
