"""Rows turned about, repeated, exchanged and backward."""

from tossrow.errors import NoRow, NoThrow, NoTurn
from tossrow.rows import MOST_HEIGHTS, TOP_HEIGHT, need_going, need_row
from tossrow.whole import is_whole


def turned(row, by):
    """The row that begins so many turns later."""
    need_row(row)
    if not is_whole(by) or by < 0:
        raise NoTurn("a row is turned by a whole number from 0 on")
    return [row[(turn + by) % len(row)] for turn in range(len(row))]


def repeated(row, many):
    """The row so many times, one behind the other."""
    need_row(row)
    if not is_whole(many) or many < 1:
        raise NoRow("a row is repeated a whole number of times, from 1 on")
    if len(row) * many > MOST_HEIGHTS:
        raise NoRow(f"a row has at most {MOST_HEIGHTS} heights")
    return list(row) * many


def exchanged(row, one, other):
    """The row with the throws of two turns coming down where the other one's did."""
    need_row(row)
    if not is_whole(one) or not is_whole(other) or not 0 <= one < other < len(row):
        raise NoTurn("two turns of the row are exchanged, the lesser one first")
    apart = other - one
    heights = list(row)
    heights[one] = row[other] + apart
    heights[other] = row[one] - apart
    if heights[one] > TOP_HEIGHT or heights[other] < 0:
        raise NoThrow(f"a height is from 0 to {TOP_HEIGHT}")
    return heights


def backward(row):
    """The row as it goes on where the clock is turned back: what comes down is thrown, and the other way round."""
    need_going(row)
    heights = [0] * len(row)
    for turn, height in enumerate(row):
        heights[-(turn + height) % len(row)] = height
    return heights
