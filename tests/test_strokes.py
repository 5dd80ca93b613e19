"""Points 5 and 6: strokes, judge."""

import itertools
import unittest

from calls import ask, begin, cells, fences, judge, largest, on, strokes


def told_strokes(answer):
    """The strokes of an answer to strokes, one by one."""
    rest = answer[1:]
    found = []
    while rest:
        length = 4 if rest[0] == 0 else 2
        found.append(rest[:length])
        rest = rest[length:]
    assert len(found) == answer[0]
    return found


def fewest_strokes(heights):
    """By trying all: boards that are painted down, and along what the others still need."""
    best = len(heights)
    for downs in itertools.product((False, True), repeat=len(heights)):
        count = sum(downs)
        for level in range(1, max(heights) + 1):
            needed = False
            for down, height in zip(downs, heights):
                # A stroke along may run over boards that are painted down too, but not over lower ones.
                if height < level:
                    needed = False
                elif not down and not needed:
                    count += 1
                    needed = True
        best = min(best, count)
    return best


class Strokes(unittest.TestCase):
    def test_along_alone(self):
        self.assertEqual(on([1, 1], strokes()), [1, 0, 1, 0, 1])
        self.assertEqual(on([2, 2, 2], strokes()), [2, 0, 1, 0, 2, 0, 2, 0, 2])

    def test_down_alone(self):
        self.assertEqual(on([8], strokes()), [1, 1, 0])
        self.assertEqual(on([5, 8, 5], strokes()), [3, 1, 0, 1, 1, 1, 2])

    def test_as_many_go_down(self):
        self.assertEqual(on([1], strokes()), [1, 1, 0])
        self.assertEqual(on([2, 2], strokes()), [2, 1, 0, 1, 1])
        self.assertEqual(on([1, 2], strokes()), [2, 1, 0, 1, 1])

    def test_a_part_goes_down(self):
        self.assertEqual(on([1, 8, 1], strokes()), [2, 0, 1, 0, 2, 1, 1])
        self.assertEqual(on([1, 3, 3, 1, 1], strokes()), [3, 0, 1, 0, 4, 1, 1, 1, 2])

    def test_parts_side_by_side(self):
        self.assertEqual(on([2, 2, 1, 2, 1], strokes()), [3, 0, 1, 0, 4, 0, 2, 0, 1, 1, 3])
        self.assertEqual(on([2, 2, 1, 2, 2], strokes()), [3, 0, 1, 0, 4, 0, 2, 0, 1, 0, 2, 3, 4])
        self.assertEqual(on([8, 1, 1, 1, 8], strokes()), [3, 0, 1, 0, 4, 1, 0, 1, 4])

    def test_parts_within_parts(self):
        self.assertEqual(on([1, 2, 2, 7, 2, 1, 3, 1], strokes()),
                         [4, 0, 1, 0, 7, 0, 2, 1, 4, 1, 3, 1, 6])

    def test_parts_are_not_counted_by_the_whole_fence(self):
        # The part's two strokes along are fewer than the boards of the fence, but not than its own two.
        self.assertEqual(on([1, 1, 1, 1, 3, 3], strokes()), [3, 0, 1, 0, 5, 1, 4, 1, 5])

    def test_largest_fences(self):
        self.assertEqual(on([8] * 8, strokes()), [8, 1, 0, 1, 1, 1, 2, 1, 3, 1, 4, 1, 5, 1, 6, 1, 7])
        self.assertEqual(on([7] * 8, strokes()), [7] + [n for up in range(1, 8) for n in (0, up, 0, 7)])

    def test_fence_stays_as_it_was(self):
        self.assertEqual(ask(begin(3, 3), strokes(), largest())[2], [6, 0, 2])

    def test_they_paint_each_small_fence_and_no_fewer_can(self):
        for heights in fences(5, 4):
            answer = on(heights, strokes())
            self.assertEqual(answer[0], fewest_strokes(heights), heights)
            self.assertEqual(on(heights, judge(*told_strokes(answer))), [0, 0], heights)


class Judge(unittest.TestCase):
    def test_no_strokes(self):
        self.assertEqual(on([2, 3], judge()), [5, 0, 1])
        self.assertEqual(on([8] * 8, judge()), [64, 0, 1])

    def test_painted(self):
        self.assertEqual(on([1, 3, 1], judge([1, 1], [0, 1, 0, 2])), [0, 0])
        self.assertEqual(on([1, 1], judge([0, 1, 0, 1])), [0, 0])

    def test_more_than_need_be(self):
        self.assertEqual(on([1, 1], judge([1, 0], [1, 1])), [0, 1])
        self.assertEqual(on([2], judge([1, 0], [0, 1, 0, 0], [1, 0])), [0, 2])
        self.assertEqual(on([1], judge(*[[1, 0]] * 20)), [0, 19])

    def test_bare_cells(self):
        self.assertEqual(on([3, 2], judge([0, 1, 0, 1])), [3, 0, 2])
        self.assertEqual(on([3, 2], judge([1, 0])), [2, 1, 1])
        self.assertEqual(on([3, 2], judge([1, 0], [0, 1, 1, 1])), [1, 1, 2])
        self.assertEqual(on([3, 2], judge([0, 2, 0, 1], [0, 3, 0, 0])), [2, 0, 1])

    def test_a_stroke_along_ends_at_its_boards(self):
        self.assertEqual(on([1] * 5, judge([0, 1, 1, 3])), [2, 0, 1])
        self.assertEqual(on([1] * 5, judge([0, 1, 0, 3])), [1, 4, 1])
        self.assertEqual(on([1] * 5, judge([0, 1, 0, 0], [0, 1, 2, 4])), [1, 1, 1])

    def test_not_told_as_strokes_are(self):
        wrong = ([], [0], [1], [0, 1], [2, 0], [1, 0, 0], [0, 1, 0], [2, 1, 0, 0], [1, 1, 0, 0],
                 [0, 1, 0, 0, 0], [1, 0, 0, 0, 0], [20, 20])
        for stroke in wrong:
            with self.subTest(stroke=stroke):
                self.assertEqual(on([2, 2], judge(stroke)), [-1])
                self.assertEqual(on([2, 2], judge([1, 0], [1, 1], stroke)), [-1])

    def test_that_counts_ahead_of_one_that_cannot_be_done(self):
        self.assertEqual(on([2, 2], judge([1, 9], [])), [-1])
        self.assertEqual(on([2, 2], judge([], [1, 9])), [-1])
        self.assertEqual(on([2, 2], judge([0, 0, 0, 0], [2, 0])), [-1])

    def test_cannot_be_done(self):
        for stroke in ([0, 0, 0, 0], [0, 0, 0, 2], [0, 4, 0, 0], [0, 20, 0, 0], [0, 3, 0, 1], [0, 3, 1, 2],
                       [0, 3, 0, 2], [0, 1, 1, 0], [0, 1, 2, 0], [0, 1, 0, 3], [0, 1, 3, 3], [0, 1, 3, 0],
                       [0, 1, 20, 20], [1, 3], [1, 20]):
            with self.subTest(stroke=stroke):
                self.assertEqual(on([3, 2, 3], judge(stroke)), [-3, 0])

    def test_which_one_cannot_be_done(self):
        self.assertEqual(on([3, 2, 3], judge([1, 0], [0, 1, 2, 1], [1, 2])), [-3, 1])
        self.assertEqual(on([3, 2, 3], judge([1, 0], [1, 1], [1, 3], [1, 20], [1, 2])), [-3, 2])
        self.assertEqual(on([1], judge(*[[1, 0]] * 19, [0, 0, 0, 0])), [-3, 19])

    def test_can_just_be_done(self):
        for stroke in ([0, 2, 0, 2], [0, 3, 0, 0], [0, 3, 2, 2], [1, 2], [0, 1, 1, 1]):
            with self.subTest(stroke=stroke):
                self.assertEqual(on([3, 2, 3], judge([1, 0], [1, 1], [1, 2], stroke)), [0, 1])

    def test_each_pair_of_strokes_on_small_fences(self):
        every = [[1, board] for board in range(3)]
        every += [[0, height, *ends] for height in range(4) for ends in itertools.product(range(3), repeat=2)]
        for heights in fences(2, 3):
            for pair in itertools.product(every, repeat=2):
                self.assertEqual(on(heights, judge(*pair)), judged(heights, pair), (heights, pair))


def stroke_cells(heights, stroke):
    """The cells that a stroke paints, or none of them if it can't be done."""
    if stroke[0] == 1:
        return {cell for cell in cells(heights) if cell[0] == stroke[1]}
    path = {(board, stroke[1]) for board in range(stroke[2], stroke[3] + 1)}
    return path if path <= cells(heights) else set()


def judged(heights, handed):
    painted = [stroke_cells(heights, stroke) for stroke in handed]
    for which, part in enumerate(painted):
        if not part:
            return [-3, which]
    bare = sorted(cells(heights).difference(*painted))
    if bare:
        return [len(bare), *bare[0]]
    return [0, len(handed) - fewest_strokes(heights)]


if __name__ == "__main__":
    unittest.main()
