"""Point 1, and what is told of a line with no fence."""

import unittest

from calls import ask, begin, judge, largest, places, raising, strokes


class NoFence(unittest.TestCase):
    def test_every_call_but_begin_is_refused(self):
        for call in (largest(), places(1, 1), raising(1, 1), strokes(), judge(), judge([1, 0])):
            with self.subTest(call=call):
                self.assertEqual(ask(call), [[-9]])

    def test_calls_of_other_numbers_are_refused_too(self):
        for call in ([6, 1, 0, 0], [7, 2, 0, 1, 0], [8, 2, 0, 0, 0], [9, 2, 1, 1, 0], [10, 0, 0]):
            with self.subTest(call=call):
                self.assertEqual(ask(call), [[-9]])

    def test_no_fence_counts_ahead_of_other_refusals(self):
        for call in (places(0, 1), raising(9, 1), judge([]), judge([1, 20])):
            with self.subTest(call=call):
                self.assertEqual(ask(call), [[-9]])

    def test_refused_begin_makes_no_fence(self):
        self.assertEqual(ask(begin(), largest()), [[-1], [-9]])

    def test_fence_is_there_from_begin_on(self):
        self.assertEqual(ask(largest(), begin(2), largest()), [[-9], [0], [2, 0, 1]])


class Begin(unittest.TestCase):
    def test_count_of_boards(self):
        for count, answer in ((0, -1), (1, 0), (8, 0), (9, -1), (10, -1)):
            with self.subTest(count=count):
                self.assertEqual(ask(begin(*[1] * count)), [[answer]])

    def test_heights(self):
        for height, answer in ((0, -1), (1, 0), (8, 0), (9, -1), (20, -1)):
            for heights in ([height], [height, 3, 3], [3, height, 3], [3, 3, height]):
                with self.subTest(heights=heights):
                    self.assertEqual(ask(begin(*heights)), [[answer]])

    def test_new_fence_takes_the_place_of_the_old_one(self):
        self.assertEqual(ask(begin(5, 5), begin(3), largest()), [[0], [0], [3, 0, 1]])

    def test_refused_begin_leaves_the_fence(self):
        for refused in (begin(), begin(*[1] * 9), begin(0), begin(1, 9), begin(8, 0, 8)):
            with self.subTest(refused=refused):
                self.assertEqual(ask(begin(2, 3), refused, largest()), [[0], [-1], [4, 0, 2]])


if __name__ == "__main__":
    unittest.main()
