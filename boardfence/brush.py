"""The calls on a fence: they are read from one list of numbers and answered one behind another."""

from boardfence.fence import LEFT, RIGHT
from boardfence.fence import bare_cells, can_be_done, fence_strokes, fitting_places, has_board
from boardfence.fence import is_stroke, largest_poster, least_raise, raised, seen_boards

BEGIN = 0
LARGEST = 1
PLACES = 2
RAISE = 3
STROKES = 4
JUDGE = 5
SEEN = 6
BOARD = 7
SWAP = 8

NOT_ALLOWED = -1
NO_SUCH_BOARD = -2
CANNOT_BE_DONE = -3
TOO_FEW_BOARDS = -6
NO_FENCE = -9

MOST = 8


def is_size(number):
    """Whether boards may be so many, or a board or a poster so high or so wide."""
    return 1 <= number and number <= MOST


def places(heights, width, height):
    """The answer to places."""
    if not (is_size(width) and is_size(height)):
        return [NOT_ALLOWED]
    found = fitting_places(heights, width, height)
    if len(found) == 0:
        return [0]
    return [len(found)] + found[0]


def raising(heights, width, height):
    """The answer to raise."""
    if not (is_size(width) and is_size(height)):
        return [NOT_ALLOWED]
    if width > len(heights):
        return [TOO_FEW_BOARDS]
    return least_raise(heights, width, height)


def strokes(heights):
    """The answer to strokes."""
    found = fence_strokes(heights)
    told = [len(found)]
    for stroke in found:
        told.extend(stroke)
    return told


def judge(heights, handed):
    """The answer to judge."""
    # A list that isn't a stroke counts ahead of a stroke that can't be done, wherever either stands.
    if not all([is_stroke(stroke) for stroke in handed]):
        return [NOT_ALLOWED]
    for which, stroke in enumerate(handed):
        if not can_be_done(heights, stroke):
            return [CANNOT_BE_DONE, which]
    bare = bare_cells(heights, handed)
    if len(bare) > 0:
        return [len(bare)] + bare[0]
    return [0, len(handed) - len(fence_strokes(heights))]


def seen(heights, end):
    """The answer to seen."""
    if end not in (LEFT, RIGHT):
        return [NOT_ALLOWED]
    found = seen_boards(heights, end)
    return [len(found)] + found


class Line:
    """What one line of calls keeps: the heights of its boards, none of them while there is no fence."""

    def __init__(self):
        self.heights = []

    def begin(self, heights):
        """The answer to begin, which puts up the fence."""
        if not (is_size(len(heights)) and all([is_size(height) for height in heights])):
            return [NOT_ALLOWED]
        self.heights = list(heights)
        return [0]

    def change_board(self, board, height):
        """The answer to board, which makes a board so high."""
        if not has_board(self.heights, board):
            return [NO_SUCH_BOARD]
        if not is_size(height):
            return [NOT_ALLOWED]
        before = self.heights[board]
        self.heights[board] = height
        return [before]

    def swap(self, board, other):
        """The answer to swap, which lets two boards change places."""
        if not (has_board(self.heights, board) and has_board(self.heights, other)):
            return [NO_SUCH_BOARD]
        height = self.heights[board]
        self.heights[board] = self.heights[other]
        self.heights[other] = height
        return [0]

    def hang(self, width, height):
        """The answer to hang, which raises boards as raise tells."""
        told = raising(self.heights, width, height)
        # A refusal of raise is one of hang too, and there is no board behind it.
        if told[0] < 0:
            return told
        self.heights = raised(self.heights, told[1], width, height)
        return [told[0]]

    def look(self):
        """The answer to look."""
        return [len(self.heights)] + self.heights

    def answer(self, number, numbers, lists):
        """The answer to one call, told by its number and by what it has."""
        if number == BEGIN:
            return self.begin(lists[0])
        if len(self.heights) == 0:
            return [NO_FENCE]
        if number == JUDGE:
            return judge(self.heights, lists)
        if len(numbers) == 2:
            return self.answer_two(number, numbers[0], numbers[1])
        if number == SEEN:
            return seen(self.heights, numbers[0])
        return self.answer_none(number)

    def answer_two(self, number, first, second):
        """The answer to a call that has two whole numbers."""
        if number == PLACES:
            return places(self.heights, first, second)
        if number == RAISE:
            return raising(self.heights, first, second)
        if number == BOARD:
            return self.change_board(first, second)
        if number == SWAP:
            return self.swap(first, second)
        # Hang is the only such call that is left.
        return self.hang(first, second)

    def answer_none(self, number):
        """The answer to a call that has nothing."""
        if number == LARGEST:
            return largest_poster(self.heights)
        if number == STROKES:
            return strokes(self.heights)
        # Look is the only such call that is left.
        return self.look()


def counted(calls, at):
    """The numbers whose count stands at this place, ahead of them."""
    return calls[at + 1:at + 1 + calls[at]]


def read_calls(calls):
    """The calls one by one: the number of each, its whole numbers and its lists."""
    read = []
    at = 0
    while at < len(calls):
        number = calls[at]
        numbers = counted(calls, at + 1)
        at = at + 2 + len(numbers)
        many = calls[at]
        at = at + 1
        lists = []
        while len(lists) < many:
            row = counted(calls, at)
            lists.append(row)
            at = at + 1 + len(row)
        read.append((number, numbers, lists))
    return read


def answers(calls):
    """For each call of the line, in order: how many numbers are answered, then these."""
    line = Line()
    told = []
    for call in read_calls(calls):
        answer = line.answer(call[0], call[1], call[2])
        told.append(len(answer))
        told.extend(answer)
    return told
