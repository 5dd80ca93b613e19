"""What can be told of a fence from the heights of its boards, from the left on.

A stroke is a list: ALONG, a height, a board, a board; or DOWN, a board.
"""

ALONG = 0
DOWN = 1

LEFT = 0
RIGHT = 1


def largest_poster(heights):
    """How many cells the largest poster that fits has, from which board on, how wide it is."""
    best = [0, 0, 0]
    for board in range(len(heights)):
        for width in range(1, len(heights) - board + 1):
            cells = width * min(heights[board:board + width])
            # The walk goes from the left and from the narrowest on, so the first of as many cells stays.
            if cells > best[0]:
                best = [cells, board, width]
    return best


def fitting_places(heights, width, height):
    """Where the poster fits: a board and how many cells are below it, the first place first."""
    places = []
    for board in range(len(heights) - width + 1):
        lowest = min(heights[board:board + width])
        for below in range(lowest - height + 1):
            places.append([board, below])
    return places


def missing_cells(heights, board, width, height):
    """By how many cells the boards from this one on are too low for the poster."""
    return sum([max(height - own, 0) for own in heights[board:board + width]])


def least_raise(heights, width, height):
    """The fewest cells to raise boards by for a poster no wider than the fence, and from which board on."""
    best = [missing_cells(heights, 0, width, height), 0]
    for board in range(1, len(heights) - width + 1):
        cells = missing_cells(heights, board, width, height)
        if cells < best[0]:
            best = [cells, board]
    return best


def raised(heights, board, width, height):
    """The heights once the boards from this one on are no lower than the poster is high."""
    past = board + width
    return heights[:board] + [max(own, height) for own in heights[board:past]] + heights[past:]


def higher_parts(heights, first, past, level):
    """The parts of boards side by side above a level: the first board of each, and the board past its last."""
    parts = []
    start = first
    for board in range(first, past + 1):
        if board == past or heights[board] <= level:
            if start < board:
                parts.append((start, board))
            start = board + 1
    return parts


def part_strokes(heights, first, past, painted):
    """The strokes for the boards from first to ahead of past, all higher than what is painted already."""
    lowest = min(heights[first:past])
    strokes = [[ALONG, height, first, past - 1] for height in range(painted + 1, lowest + 1)]
    # Each part lacks at least the lowest board, so calls within one another are no more than boards.
    for part in higher_parts(heights, first, past, lowest):
        strokes.extend(part_strokes(heights, part[0], part[1], lowest))
    if len(strokes) < past - first:
        return strokes
    return [[DOWN, board] for board in range(first, past)]


def fence_strokes(heights):
    """The strokes for the whole fence."""
    return part_strokes(heights, 0, len(heights), 0)


def boards_from(heights, end):
    """All boards, in the order in which one comes by them from this end on."""
    if end == LEFT:
        return list(range(len(heights)))
    return list(range(len(heights) - 1, -1, -1))


def seen_boards(heights, end):
    """The boards that are higher than all between them and this end, from it on."""
    found = []
    highest = 0
    for board in boards_from(heights, end):
        if heights[board] > highest:
            found.append(board)
            highest = heights[board]
    return found


def has_board(heights, board):
    """Whether there is a board of this number, which is never below 0."""
    return board < len(heights)


def is_stroke(stroke):
    """Whether a list is told as strokes are, be it one that can be done or not."""
    if len(stroke) == 4:
        return stroke[0] == ALONG
    if len(stroke) == 2:
        return stroke[0] == DOWN
    return False


def can_be_done(heights, stroke):
    """Whether the brush can go as the stroke tells."""
    if stroke[0] == DOWN:
        return has_board(heights, stroke[1])
    height = stroke[1]
    first = stroke[2]
    last = stroke[3]
    if height == 0 or first > last or not has_board(heights, last):
        return False
    return height <= min(heights[first:last + 1])


def paints(stroke, board, height):
    """Whether the stroke goes over this cell."""
    if stroke[0] == DOWN:
        return stroke[1] == board
    return stroke[1] == height and stroke[2] <= board and board <= stroke[3]


def bare_cells(heights, strokes):
    """The cells that no stroke goes over: a board and a height each, from the left and from below on."""
    bare = []
    for board in range(len(heights)):
        for height in range(1, heights[board] + 1):
            if not any([paints(stroke, board, height) for stroke in strokes]):
                bare.append([board, height])
    return bare
