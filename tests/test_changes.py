"""Points 8 to 11: board, swap, hang, look; and what the other calls answer once the fence is another."""

import unittest

from calls import ask, begin, behind, board, fences, hang, judge, largest, look, on, places, raising, seen
from calls import strokes, swap


class Board(unittest.TestCase):
    def test_it_is_so_high_from_now_on(self):
        self.assertEqual(behind([2, 5, 3], board(1, 7)), ([[5]], [2, 7, 3]))
        self.assertEqual(behind([2, 5, 3], board(0, 1)), ([[2]], [1, 5, 3]))
        self.assertEqual(behind([2, 5, 3], board(2, 8)), ([[3]], [2, 5, 8]))

    def test_how_high_it_was_the_last_time(self):
        self.assertEqual(behind([4], board(0, 6), board(0, 2), board(0, 2)), ([[4], [6], [2]], [2]))

    def test_the_last_of_the_most_boards(self):
        self.assertEqual(behind([1] * 8, board(7, 3)), ([[1]], [1] * 7 + [3]))

    def test_no_such_board(self):
        for heights, which in (([3], 1), ([3], 9), ([2, 2], 2), ([5] * 7, 7), ([5] * 8, 8), ([5] * 8, 9)):
            with self.subTest(heights=heights, which=which):
                self.assertEqual(behind(heights, board(which, 1)), ([[-2]], heights))

    def test_height(self):
        for height in (1, 8):
            with self.subTest(height=height):
                self.assertEqual(behind([4, 5], board(1, height)), ([[5]], [4, height]))
        for height in (0, 9, 10, 20):
            with self.subTest(height=height):
                self.assertEqual(behind([4, 5], board(1, height)), ([[-1]], [4, 5]))

    def test_no_such_board_counts_ahead_of_the_height(self):
        for height in (0, 9, 20):
            with self.subTest(height=height):
                self.assertEqual(behind([4, 5], board(2, height)), ([[-2]], [4, 5]))


class Swap(unittest.TestCase):
    def test_two_boards(self):
        self.assertEqual(behind([1, 2, 3, 4], swap(0, 2)), ([[0]], [3, 2, 1, 4]))
        self.assertEqual(behind([1, 2, 3, 4], swap(3, 1)), ([[0]], [1, 4, 3, 2]))
        self.assertEqual(behind([1, 2], swap(1, 0)), ([[0]], [2, 1]))

    def test_one_with_itself(self):
        self.assertEqual(behind([1, 2, 3], swap(1, 1)), ([[0]], [1, 2, 3]))
        self.assertEqual(behind([6], swap(0, 0)), ([[0]], [6]))

    def test_both_ends_of_the_most_boards(self):
        self.assertEqual(behind([1, 2, 3, 4, 5, 6, 7, 8], swap(0, 7)), ([[0]], [8, 2, 3, 4, 5, 6, 7, 1]))

    def test_twice_is_as_before(self):
        self.assertEqual(behind([7, 2, 3], swap(0, 1), swap(1, 0)), ([[0], [0]], [7, 2, 3]))

    def test_no_such_board(self):
        for which, other in ((0, 3), (3, 0), (3, 3), (9, 1), (1, 9), (9, 9), (3, 4)):
            with self.subTest(which=which, other=other):
                self.assertEqual(behind([1, 2, 3], swap(which, other)), ([[-2]], [1, 2, 3]))
        self.assertEqual(behind([1] * 7 + [2], swap(0, 8)), ([[-2]], [1] * 7 + [2]))

    def test_each_pair_of_boards(self):
        heights = [5, 1, 8, 3]
        for which in range(4):
            for other in range(4):
                after = list(heights)
                after[which], after[other] = after[other], after[which]
                self.assertEqual(behind(heights, swap(which, other)), ([[0]], after), (which, other))


class Hang(unittest.TestCase):
    def test_ordinary(self):
        self.assertEqual(behind([1, 3, 2, 1], hang(2, 4)), ([[3]], [1, 4, 4, 1]))
        self.assertEqual(behind([1, 3, 2, 4], hang(2, 4)), ([[2]], [1, 3, 4, 4]))

    def test_nothing_must_be_raised(self):
        self.assertEqual(behind([1, 4, 5, 4], hang(2, 4)), ([[0]], [1, 4, 5, 4]))
        self.assertEqual(behind([8] * 8, hang(8, 8)), ([[0]], [8] * 8))

    def test_of_as_good_places_the_one_furthest_left(self):
        self.assertEqual(behind([1, 2, 2, 2], hang(2, 3)), ([[2]], [1, 3, 3, 2]))
        self.assertEqual(behind([2, 1, 2], hang(2, 2)), ([[1]], [2, 2, 2]))
        self.assertEqual(behind([2, 2, 2], hang(1, 3)), ([[1]], [3, 2, 2]))

    def test_higher_boards_stay(self):
        self.assertEqual(behind([8, 1, 6, 2], hang(4, 4)), ([[5]], [8, 4, 6, 4]))
        self.assertEqual(behind([1, 7, 3, 1], hang(2, 4)), ([[1]], [1, 7, 4, 1]))

    def test_as_wide_as_the_fence(self):
        self.assertEqual(behind([1] * 8, hang(8, 8)), ([[56]], [8] * 8))
        self.assertEqual(behind([3], hang(1, 8)), ([[5]], [8]))

    def test_a_second_time_nothing_must_be_raised(self):
        self.assertEqual(behind([1, 3, 2], hang(2, 5), hang(2, 5)), ([[5], [0]], [1, 5, 5]))

    def test_wrong_size(self):
        for width, height in ((0, 1), (1, 0), (0, 0), (9, 1), (1, 9), (20, 1), (1, 20), (9, 9)):
            with self.subTest(width=width, height=height):
                self.assertEqual(behind([2] * 8, hang(width, height)), ([[-1]], [2] * 8))

    def test_too_few_boards(self):
        self.assertEqual(behind([2, 5], hang(3, 1)), ([[-6]], [2, 5]))
        self.assertEqual(behind([2, 5], hang(8, 8)), ([[-6]], [2, 5]))
        self.assertEqual(behind([1] * 7, hang(8, 8)), ([[-6]], [1] * 7))

    def test_wrong_size_counts_ahead_of_too_few_boards(self):
        for width, height in ((9, 1), (20, 20), (3, 0), (3, 9), (8, 20)):
            with self.subTest(width=width, height=height):
                self.assertEqual(behind([2, 5], hang(width, height)), ([[-1]], [2, 5]))

    def test_each_small_fence(self):
        for heights in fences(4, 3):
            for width in range(1, len(heights) + 1):
                for height in range(1, 6):
                    best = min((sum(after) - sum(heights), first, after)
                               for first, after in hung(heights, width, height))
                    self.assertEqual(behind(heights, hang(width, height)), ([[best[0]]], best[2]),
                                     (heights, width, height))

    def test_it_raises_as_raise_tells(self):
        for heights in fences(3, 3):
            for width in range(0, 5):
                for height in range(0, 5):
                    told, answer = ask(begin(*heights), raising(width, height), hang(width, height))[1:]
                    self.assertEqual(answer, told[:1], (heights, width, height))


def hung(heights, width, height):
    """Where the poster could be hung, and how high the boards would be then."""
    for first in range(len(heights) - width + 1):
        yield first, [max(own, height) if first <= which < first + width else own
                      for which, own in enumerate(heights)]


class Look(unittest.TestCase):
    def test_each_small_fence(self):
        for heights in fences(4, 3):
            self.assertEqual(on(heights, look()), [len(heights), *heights])

    def test_the_most_and_the_highest_boards(self):
        self.assertEqual(on([8] * 8, look()), [8] * 9)
        self.assertEqual(on([1, 2, 3, 4, 5, 6, 7, 8], look()), [8, 1, 2, 3, 4, 5, 6, 7, 8])

    def test_it_changes_nothing(self):
        self.assertEqual(behind([3, 1], look(), look()), ([[2, 3, 1], [2, 3, 1]], [3, 1]))

    def test_behind_each_refusal(self):
        refused = [begin(), begin(9), places(0, 1), raising(1, 9), raising(4, 1), judge([]), judge([1, 3]),
                   seen(2), board(3, 1), board(0, 9), swap(0, 3), swap(3, 0), hang(0, 1), hang(4, 1)]
        for call in refused:
            with self.subTest(call=call):
                told, after = behind([3, 1, 2], call)
                self.assertLess(told[0][0], 0)
                self.assertEqual(after, [3, 1, 2])


class ForTheFenceAsItIs(unittest.TestCase):
    questions = [largest(), places(2, 2), raising(3, 4), strokes(), judge([1, 1], [0, 1, 0, 2]), seen(0), seen(1)]

    def as_on(self, before, change, after):
        """All questions are asked ahead of the change too, so an answer kept from there would show."""
        told = ask(begin(*before), *self.questions, change, *self.questions, look())
        new = ask(begin(*after), *self.questions, look())
        self.assertEqual(told[-len(new) + 1:], new[1:])
        older = told[1:1 + len(self.questions)]
        self.assertNotEqual(older, new[1:-1])

    def test_after_board(self):
        self.as_on([1, 3, 1], board(1, 1), [1, 1, 1])
        self.as_on([1, 3, 1], board(2, 8), [1, 3, 8])

    def test_after_swap(self):
        self.as_on([1, 3, 1], swap(0, 1), [3, 1, 1])
        self.as_on([5, 3, 1], swap(2, 0), [1, 3, 5])

    def test_after_hang(self):
        self.as_on([1, 3, 1], hang(2, 3), [3, 3, 1])
        self.as_on([2, 1, 4], hang(3, 2), [2, 2, 4])

    def test_after_another_begin(self):
        self.as_on([1, 3, 1], begin(2, 2), [2, 2])
        self.as_on([1, 3, 1], begin(1, 1, 1, 4), [1, 1, 1, 4])

    def test_answers_written_out(self):
        self.assertEqual(ask(begin(1, 3, 1), board(0, 3), *self.questions)[2:],
                         [[6, 0, 2], [2, 0, 0], [5, 0], [3, 1, 0, 1, 1, 1, 2], [2, 0, 2], [1, 0], [2, 2, 1]])

    def test_changes_behind_one_another(self):
        told, after = behind([1, 2, 3], swap(0, 2), board(1, 6), hang(3, 2), swap(1, 1), board(3, 3), swap(1, 2))
        self.assertEqual(told, [[0], [2], [1], [0], [-2], [0]])
        self.assertEqual(after, [3, 2, 6])

    def test_a_new_fence_has_nothing_of_the_old_one(self):
        self.assertEqual(ask(begin(1, 1), board(0, 5), begin(1, 1), look()), [[0], [1], [0], [2, 1, 1]])


if __name__ == "__main__":
    unittest.main()
