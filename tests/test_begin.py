"""Point 1, and what is told of a line with no fence."""

import unittest

from calls import ask, begin, behind, board, hang, judge, largest, look, places, raising, seen, strokes, swap


class NoFence(unittest.TestCase):
    def test_every_call_but_begin_is_refused(self):
        for call in (largest(), places(1, 1), raising(1, 1), strokes(), judge(), judge([1, 0]),
                     seen(0), seen(1), board(0, 1), swap(0, 0), hang(1, 1), look()):
            with self.subTest(call=call):
                self.assertEqual(ask(call), [[-9]])
                self.assertEqual(ask(call, look(), begin(4, 2), look()), [[-9], [-9], [0], [2, 4, 2]])

    def test_no_fence_counts_ahead_of_other_refusals(self):
        for call in (places(0, 1), raising(9, 1), judge([]), judge([1, 20]), seen(2), seen(9),
                     board(9, 1), board(0, 0), board(9, 20), swap(0, 9), swap(9, 0), hang(0, 1), hang(1, 20),
                     hang(8, 8)):
            with self.subTest(call=call):
                self.assertEqual(ask(call), [[-9]])

    def test_refused_begin_makes_no_fence(self):
        self.assertEqual(ask(begin(), largest()), [[-1], [-9]])
        self.assertEqual(ask(begin(1, 9), look()), [[-1], [-9]])

    def test_fence_is_there_from_begin_on(self):
        self.assertEqual(ask(largest(), begin(2), largest()), [[-9], [0], [2, 0, 1]])


class Begin(unittest.TestCase):
    def test_count_of_boards(self):
        for count, answer in ((0, -1), (1, 0), (8, 0), (9, -1), (10, -1)):
            with self.subTest(count=count):
                self.assertEqual(ask(begin(*[1] * count)), [[answer]])

    def test_heights(self):
        for height, answer in ((0, -1), (1, 0), (8, 0), (9, -1), (20, -1)):
            for heights in ([height], [height, 3, 3], [3, height, 3], [3, 3, height]):
                with self.subTest(heights=heights):
                    self.assertEqual(ask(begin(*heights)), [[answer]])

    def test_new_fence_takes_the_place_of_the_old_one(self):
        self.assertEqual(ask(begin(5, 5), begin(3), largest()), [[0], [0], [3, 0, 1]])
        self.assertEqual(behind([5, 5], begin(3)), ([[0]], [3]))
        self.assertEqual(behind([3], begin(1, 2, 3, 4, 5, 6, 7, 8)), ([[0]], [1, 2, 3, 4, 5, 6, 7, 8]))

    def test_refused_begin_leaves_the_fence(self):
        for refused in (begin(), begin(*[1] * 9), begin(0), begin(1, 9), begin(8, 0, 8)):
            with self.subTest(refused=refused):
                self.assertEqual(ask(begin(2, 3), refused, largest()), [[0], [-1], [4, 0, 2]])
                self.assertEqual(behind([2, 3], refused), ([[-1]], [2, 3]))


if __name__ == "__main__":
    unittest.main()
