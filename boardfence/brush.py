"""The calls on a fence: they are read from one list of numbers and answered one behind another."""

from boardfence.fence import bare_cells, can_be_done, fence_strokes, fitting_places
from boardfence.fence import is_stroke, largest_poster, least_raise

BEGIN = 0
LARGEST = 1
PLACES = 2
RAISE = 3
STROKES = 4
JUDGE = 5

NOT_ALLOWED = -1
CANNOT_BE_DONE = -3
TOO_FEW_BOARDS = -6
NO_FENCE = -9

MOST = 8


def is_size(number):
    """Whether boards may be so many, or a board or a poster so high or so wide."""
    return 1 <= number and number <= MOST


def places(heights, width, height):
    """The answer to places."""
    if not (is_size(width) and is_size(height)):
        return [NOT_ALLOWED]
    found = fitting_places(heights, width, height)
    if len(found) == 0:
        return [0]
    return [len(found)] + found[0]


def raising(heights, width, height):
    """The answer to raise."""
    if not (is_size(width) and is_size(height)):
        return [NOT_ALLOWED]
    if width > len(heights):
        return [TOO_FEW_BOARDS]
    return least_raise(heights, width, height)


def strokes(heights):
    """The answer to strokes."""
    found = fence_strokes(heights)
    told = [len(found)]
    for stroke in found:
        told.extend(stroke)
    return told


def judge(heights, handed):
    """The answer to judge."""
    # A list that isn't a stroke counts ahead of a stroke that can't be done, wherever either stands.
    if not all([is_stroke(stroke) for stroke in handed]):
        return [NOT_ALLOWED]
    for which, stroke in enumerate(handed):
        if not can_be_done(heights, stroke):
            return [CANNOT_BE_DONE, which]
    bare = bare_cells(heights, handed)
    if len(bare) > 0:
        return [len(bare)] + bare[0]
    return [0, len(handed) - len(fence_strokes(heights))]


class Line:
    """What one line of calls keeps: the heights of its boards, none of them while there is no fence."""

    def __init__(self):
        self.heights = []

    def begin(self, heights):
        """The answer to begin, which puts up the fence."""
        if not (is_size(len(heights)) and all([is_size(height) for height in heights])):
            return [NOT_ALLOWED]
        self.heights = list(heights)
        return [0]

    def answer(self, number, numbers, lists):
        """The answer to one call, told by its number and by what it has."""
        if number == BEGIN:
            return self.begin(lists[0])
        if len(self.heights) == 0:
            return [NO_FENCE]
        if number == LARGEST:
            return largest_poster(self.heights)
        if number == PLACES:
            return places(self.heights, numbers[0], numbers[1])
        if number == RAISE:
            return raising(self.heights, numbers[0], numbers[1])
        if number == STROKES:
            return strokes(self.heights)
        if number == JUDGE:
            return judge(self.heights, lists)
        raise NotImplementedError("this call is not built yet")


def counted(calls, at):
    """The numbers whose count stands at this place, ahead of them."""
    return calls[at + 1:at + 1 + calls[at]]


def read_calls(calls):
    """The calls one by one: the number of each, its whole numbers and its lists."""
    read = []
    at = 0
    while at < len(calls):
        number = calls[at]
        numbers = counted(calls, at + 1)
        at = at + 2 + len(numbers)
        many = calls[at]
        at = at + 1
        lists = []
        while len(lists) < many:
            row = counted(calls, at)
            lists.append(row)
            at = at + 1 + len(row)
        read.append((number, numbers, lists))
    return read


def answers(calls):
    """For each call of the line, in order: how many numbers are answered, then these."""
    line = Line()
    told = []
    for call in read_calls(calls):
        answer = line.answer(call[0], call[1], call[2])
        told.append(len(answer))
        told.extend(answer)
    return told
