"""Writes calls as the interface asks for them, and takes answers apart again."""

import itertools

from boardfence.brush import answers


def begin(*heights):
    return [0, 0, 1, len(heights), *heights]


def largest():
    return [1, 0, 0]


def places(width, height):
    return [2, 2, width, height, 0]


def raising(width, height):
    return [3, 2, width, height, 0]


def strokes():
    return [4, 0, 0]


def judge(*handed):
    call = [5, 0, len(handed)]
    for stroke in handed:
        call += [len(stroke), *stroke]
    return call


def seen(end):
    return [6, 1, end, 0]


def board(which, height):
    return [7, 2, which, height, 0]


def swap(which, other):
    return [8, 2, which, other, 0]


def hang(width, height):
    return [9, 2, width, height, 0]


def look():
    return [10, 0, 0]


def ask(*calls):
    """The answer to each of the calls of one line."""
    told = answers([number for call in calls for number in call])
    parts = []
    while told:
        count = told[0]
        assert len(told) > count >= 1
        parts.append(told[1:1 + count])
        told = told[1 + count:]
    assert len(parts) == len(calls)
    return parts


def on(heights, call):
    """The answer to one call on a new fence."""
    return ask(begin(*heights), call)[1]


def behind(heights, *calls):
    """The answers to calls on a new fence, and how high its boards are behind them."""
    parts = ask(begin(*heights), *calls, look())
    assert parts[-1][0] == len(parts[-1]) - 1
    return parts[1:-1], parts[-1][1:]


def fences(most_boards, most_high):
    """Every fence of so many boards at most, each so high at most."""
    for boards in range(1, most_boards + 1):
        yield from itertools.product(range(1, most_high + 1), repeat=boards)


def cells(heights):
    return {(board, height) for board, top in enumerate(heights) for height in range(1, top + 1)}
