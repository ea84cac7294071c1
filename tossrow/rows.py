"""Rows of heights that come again and again."""

from tossrow.errors import Clash, NoRow
from tossrow.whole import is_whole

MOST_HEIGHTS = 40
TOP_HEIGHT = 9


def need_row(thing):
    """Refuse with NoRow what is no row."""
    # No message shows what was handed in: a number may be too long to be written.
    if not isinstance(thing, (list, tuple)):
        raise NoRow("a row is a list or tuple of heights")
    if not 1 <= len(thing) <= MOST_HEIGHTS:
        raise NoRow(f"a row has 1 to {MOST_HEIGHTS} heights")
    for height in thing:
        if not is_whole(height) or not 0 <= height <= TOP_HEIGHT:
            raise NoRow(f"a height is a whole number from 0 to {TOP_HEIGHT}")


def clash(row):
    """The first pair of turns (one, other) that clash, None where the row goes on."""
    need_row(row)
    thrower = {}
    for other, height in enumerate(row):
        rest = (other + height) % len(row)
        if rest in thrower:
            return (thrower[rest], other)
        thrower[rest] = other
    return None


def need_going(row):
    """Refuse with NoRow what is no row, with Clash a row that doesn't go on."""
    pair = clash(row)
    if pair is not None:
        one, other = pair
        raise Clash(one, other)


def things(row):
    """How many things a row that goes on has."""
    need_going(row)
    return sum(row) // len(row)


def orbits(row):
    """All orbits of a row that goes on, as pairs (turns, many), by their first turns."""
    need_going(row)
    found = []
    for first in range(len(row)):
        turns = _turns_from(row, first)
        # The same orbit is met from each of its turns; its least one tells it.
        if first == min(turns):
            found.append((turns, _thrown_at(row, turns)))
    return found


def _turns_from(row, first):
    turns = [first]
    turn = (first + row[first]) % len(row)
    while turn != first:
        turns.append(turn)
        turn = (turn + row[turn]) % len(row)
    return tuple(turns)


def _thrown_at(row, turns):
    return sum([row[turn] for turn in turns]) // len(row)
