"""Point 7: seen."""

import unittest

from calls import behind, fences, on, seen


def seen_by_the_words(heights, end):
    """Each board is held against all that are between it and the end."""
    found = []
    for which, height in enumerate(heights):
        between = heights[:which] if end == 0 else heights[which + 1:]
        if all(height > other for other in between):
            found.append(which)
    return found if end == 0 else found[::-1]


class Seen(unittest.TestCase):
    def test_from_the_left(self):
        self.assertEqual(on([2, 1, 5, 3, 6, 4], seen(0)), [3, 0, 2, 4])

    def test_from_the_right(self):
        self.assertEqual(on([2, 7, 5, 3, 6, 4], seen(1)), [3, 5, 4, 1])

    def test_as_high_as_one_ahead_is_not_seen(self):
        self.assertEqual(on([3, 3, 4, 4, 3], seen(0)), [2, 0, 2])
        self.assertEqual(on([3, 3, 4, 4, 3], seen(1)), [2, 4, 3])
        self.assertEqual(on([5, 2, 5, 2, 5], seen(0)), [1, 0])
        self.assertEqual(on([5, 2, 5, 2, 5], seen(1)), [1, 4])

    def test_one_board(self):
        for height in (1, 8):
            for end in (0, 1):
                with self.subTest(height=height, end=end):
                    self.assertEqual(on([height], seen(end)), [1, 0])

    def test_all_and_one_of_the_most_boards(self):
        stairs = [1, 2, 3, 4, 5, 6, 7, 8]
        self.assertEqual(on(stairs, seen(0)), [8, 0, 1, 2, 3, 4, 5, 6, 7])
        self.assertEqual(on(stairs, seen(1)), [1, 7])
        self.assertEqual(on(stairs[::-1], seen(0)), [1, 0])
        self.assertEqual(on(stairs[::-1], seen(1)), [8, 7, 6, 5, 4, 3, 2, 1, 0])

    def test_no_such_end(self):
        for end in range(2, 10):
            with self.subTest(end=end):
                self.assertEqual(behind([1, 3, 2], seen(end)), ([[-1]], [1, 3, 2]))

    def test_fence_stays_as_it_was(self):
        self.assertEqual(behind([1, 3, 2], seen(0), seen(1)), ([[2, 0, 1], [2, 2, 1]], [1, 3, 2]))

    def test_each_small_fence(self):
        for heights in fences(5, 4):
            for end in (0, 1):
                found = seen_by_the_words(heights, end)
                self.assertEqual(on(heights, seen(end)), [len(found), *found], (heights, end))


if __name__ == "__main__":
    unittest.main()
