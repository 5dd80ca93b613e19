"""Points 2 to 4: largest, places, raise."""

import unittest

from calls import ask, begin, cells, fences, largest, on, places, raising


def poster_cells(board, below, width, height):
    return {(at, below + up) for at in range(board, board + width) for up in range(1, height + 1)}


def fitting(heights, width, height):
    """The places by the words alone: every cell of the poster lies on a cell of the fence."""
    fence = cells(heights)
    return [(board, below) for board in range(8) for below in range(8)
            if poster_cells(board, below, width, height) <= fence]


class Largest(unittest.TestCase):
    def test_ordinary(self):
        self.assertEqual(on([2, 1, 5, 6, 2, 3], largest()), [10, 2, 2])

    def test_one_board(self):
        self.assertEqual(on([1], largest()), [1, 0, 1])
        self.assertEqual(on([8], largest()), [8, 0, 1])

    def test_whole_fence(self):
        self.assertEqual(on([8] * 8, largest()), [64, 0, 8])

    def test_board_furthest_left(self):
        self.assertEqual(on([4, 1, 4], largest()), [4, 0, 1])
        self.assertEqual(on([1, 4, 2], largest()), [4, 1, 1])
        self.assertEqual(on([1, 1, 3], largest()), [3, 0, 3])

    def test_then_the_narrowest(self):
        self.assertEqual(on([2, 1], largest()), [2, 0, 1])
        self.assertEqual(on([4, 2, 1, 1], largest()), [4, 0, 1])
        self.assertEqual(on([3, 3, 2], largest()), [6, 0, 2])

    def test_each_small_fence(self):
        for heights in fences(4, 4):
            posters = []
            for width in range(1, 5):
                for height in range(1, 5):
                    for board, below in fitting(heights, width, height):
                        posters.append((-width * height, board, width))
            best = min(posters)
            self.assertEqual(on(heights, largest()), [-best[0], best[1], best[2]], heights)


class Places(unittest.TestCase):
    def test_ordinary(self):
        self.assertEqual(on([1, 3, 3, 2], places(2, 2)), [3, 1, 0])

    def test_with_cells_below(self):
        self.assertEqual(on([5], places(1, 2)), [4, 0, 0])
        self.assertEqual(on([8] * 8, places(1, 1)), [64, 0, 0])

    def test_exact(self):
        self.assertEqual(on([8] * 8, places(8, 8)), [1, 0, 0])
        self.assertEqual(on([1, 8, 8], places(2, 8)), [1, 1, 0])

    def test_none_is_0_alone(self):
        self.assertEqual(on([2, 2], places(1, 3)), [0])
        self.assertEqual(on([3, 1, 3], places(2, 2)), [0])

    def test_wider_than_the_fence_is(self):
        self.assertEqual(on([8, 8], places(3, 1)), [0])
        self.assertEqual(on([8], places(8, 8)), [0])

    def test_refused(self):
        for width, height in ((0, 1), (1, 0), (9, 1), (1, 9), (20, 20), (0, 0)):
            with self.subTest(width=width, height=height):
                self.assertEqual(on([8] * 8, places(width, height)), [-1])

    def test_each_small_fence(self):
        for heights in fences(4, 3):
            for width in range(1, 6):
                for height in range(1, 5):
                    found = fitting(heights, width, height)
                    answer = [len(found), *found[0]] if found else [0]
                    self.assertEqual(on(heights, places(width, height)), answer, (heights, width, height))


class Raise(unittest.TestCase):
    def test_ordinary(self):
        self.assertEqual(on([1, 3, 2, 4], raising(2, 4)), [2, 2])
        self.assertEqual(on([1, 3, 2, 1], raising(2, 4)), [3, 1])

    def test_higher_boards_make_up_for_nothing(self):
        self.assertEqual(on([8, 1], raising(2, 4)), [3, 0])

    def test_of_as_good_ones_the_furthest_left(self):
        self.assertEqual(on([1, 2, 2, 2], raising(2, 3)), [2, 1])
        self.assertEqual(on([2, 1, 2], raising(2, 2)), [1, 0])

    def test_nothing_must_be_raised(self):
        self.assertEqual(on([1, 4, 5, 4], raising(2, 4)), [0, 1])
        self.assertEqual(on([8] * 8, raising(8, 8)), [0, 0])

    def test_as_wide_as_the_fence(self):
        self.assertEqual(on([1, 1], raising(2, 8)), [14, 0])

    def test_too_few_boards(self):
        self.assertEqual(on([8], raising(2, 1)), [-6])
        self.assertEqual(on([8] * 7, raising(8, 8)), [-6])

    def test_wrong_size_counts_ahead_of_too_few_boards(self):
        for width, height in ((0, 1), (1, 0), (9, 1), (2, 0), (2, 9), (20, 1), (1, 20)):
            with self.subTest(width=width, height=height):
                self.assertEqual(on([8], raising(width, height)), [-1])

    def test_fence_stays_as_it_was(self):
        self.assertEqual(ask(begin(1, 1), raising(2, 2), largest()), [[0], [2, 0], [2, 0, 2]])

    def test_each_small_fence(self):
        for heights in fences(4, 3):
            fence = cells(heights)
            for width in range(1, len(heights) + 1):
                for height in range(1, 6):
                    best = min((len(poster_cells(board, 0, width, height) - fence), board)
                               for board in range(len(heights) - width + 1))
                    self.assertEqual(on(heights, raising(width, height)), list(best), (heights, width, height))


if __name__ == "__main__":
    unittest.main()
