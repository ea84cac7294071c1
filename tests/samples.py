"""Rows to test with, and a plain going on of a row to compare with."""

import itertools
import random

NOT_NUMBERS = [True, False, None, "1", "", 1.0, 0.0, [1], (1,), {}, {1: 1}, b"1"]

NO_ROWS = [
    [], (), [1] * 41, (1,) * 41, [3] * 400,
    [10], [-1], (10,), (-1,), [3, 3, 10], [-1, 3, 3], [3] * 39 + [10],
    [10 ** 21], [-10 ** 21], [10 ** 5000], [-10 ** 5000],
    [[1]], [(1,)], [1, [1]], [1, None], ["1"], [1.0], [3, 3.0], [0.5],
    [True], [False], (True,), [1, True], [True, 1], [0, False], [3, 3, True],
    "", "3", "531", b"531", 3, 0, -1, 10 ** 5000, True, False, None, 1.0,
    {}, {0: 3}, {3}, {3: 3}, range(3), range(3, 4), iter([3]), list, object(),
]

# Rows that don't go on, each with the pair that is told.
CLASHES = [
    ([2, 1], (0, 1)),
    ([0, 1], (0, 1)),
    ([1, 0], (0, 1)),
    ([0, 9], (0, 1)),
    ([9, 0], (0, 1)),
    ([4, 3], (0, 1)),
    ([3, 2, 1], (0, 1)),
    ([5, 4, 3], (0, 1)),
    ([3, 3, 1], (0, 2)),
    ([1, 3, 2], (0, 1)),
    ([0, 1, 0], (1, 2)),
    ([9, 9, 8], (1, 2)),
    ([1, 0, 1, 0], (0, 1)),
    # Several pairs: (1, 2) has a lesser second turn than (0, 3).
    ([3, 3, 2, 4], (1, 2)),
    ([4, 4, 3, 1], (1, 2)),
    # (0, 4) has a lesser second turn than (1, 5).
    ([6, 6, 6, 6, 2, 2], (0, 4)),
    ([3, 2, 3, 2, 3, 2], (0, 1)),
    ([1] * 39 + [0], (38, 39)),
    ([1] * 38 + [2, 1], (38, 39)),
    ([3] * 38 + [4, 3], (38, 39)),
    ([3] * 39 + [2], (38, 39)),
]

GOING = [[0], [1], [9], [3, 3], [0, 0, 0], [5, 3, 1], [5, 1], [3, 4, 2], [4, 2, 3], [4, 4, 1], [4, 5, 3, 0],
         [0] * 40, [9] * 40, [9, 7, 5, 3, 1], [0, 1, 2], [6, 0], [0, 6], [8, 0, 1], [7, 1], [2, 0]]


class Dropped(Exception):
    """A plain going on comes to a turn at which two things, or one too many, come down."""


def go_on(row, rounds):
    """Throw round after round, from an empty air; tell (turn, thing, height) of each turn.

    A throw with nothing in the hand takes a new thing, so that the air fills at first.
    """
    air = {}
    many = 0
    done = []
    for turn in range(rounds * len(row)):
        height = row[turn % len(row)]
        thing = air.pop(turn, None)
        if height == 0:
            if thing is not None:
                raise Dropped(turn)
        else:
            if thing is None:
                thing = many
                many += 1
            if turn + height in air:
                raise Dropped(turn)
            air[turn + height] = thing
        done.append((turn, thing, height))
    return done


def goes_on(row):
    # Within 30 turns and two rounds each turn of the row has met all that can come down at it.
    try:
        go_on(row, 30 // len(row) + 2)
    except Dropped:
        return False
    return True


def plain_state(row, turn):
    """What comes down from the turn on by the throws of the 50 turns ahead of it, as bits."""
    state = 0
    for early in range(turn - 50, turn):
        height = row[early % len(row)]
        if height > 0 and early + height >= turn:
            state += 2 ** (early + height - turn)
    return state


def short_rows():
    """All rows of 1 to 3 heights."""
    for many in (1, 2, 3):
        yield from itertools.product(range(10), repeat=many)


def chance_rows(many, seed):
    """Rows of any lengths, most of which don't go on."""
    source = random.Random(seed)
    for _ in range(many):
        length = source.randint(1, 40)
        yield [source.randint(0, 9) for _ in range(length)]


def mixed(row, source):
    """A row that goes on just where this one does, behind many exchanges."""
    row = list(row)
    for _ in range(6 * len(row)):
        one, other = sorted((source.randrange(len(row)), source.randrange(len(row))))
        low, high = row[one] - (other - one), row[other] + (other - one)
        if one < other and low >= 0 and high <= 9:
            row[one], row[other] = high, low
    return row


def going_rows(many, seed):
    """Rows of any lengths that go on, got by exchanging where throws come down."""
    source = random.Random(seed)
    for _ in range(many):
        length = source.randint(1, 40)
        yield mixed([source.randint(0, 9)] * length, source)


def nearly_going_rows(many, seed):
    """Rows that would go on, but for one height."""
    source = random.Random(seed)
    for row in going_rows(many, seed):
        if len(row) > 1:
            at = source.randrange(len(row))
            row[at] = (row[at] + source.randint(1, len(row) - 1)) % 10
            yield row


class PlainHall:
    """A hall over the turns of its clock: what comes down when, and a plain list of the heights to come.

    The ways are told to it. Its list is long enough for 1000 turns behind each change.
    """

    def __init__(self, row):
        landings = [early + row[early % len(row)] for early in range(-50, 0) if row[early % len(row)] > 0]
        self.turn = 0
        self.air = dict(zip(sorted(turn for turn in landings if turn >= 0), itertools.count()))
        self.change([], row)

    def state(self):
        return sum(2 ** (turn - self.turn) for turn in self.air)

    def pairs(self):
        return [(self.air[turn], turn - self.turn) for turn in sorted(self.air)]

    def ahead(self, many):
        return self.heights[:many]

    def step(self):
        turn, height, thing = self.turn, self.heights.pop(0), self.air.pop(self.turn, None)
        if (thing is None) != (height == 0) or turn + height in self.air:
            raise Dropped(turn)
        if thing is not None:
            self.air[turn + height] = thing
        self.turn = turn + 1
        return (turn, thing, height)

    def change(self, way, row):
        self.heights = [*way, *list(row) * (1000 // len(row) + 1)]


def going_rows_of(many, things, seed):
    """Rows of up to 12 heights that go on and have just so many things."""
    source = random.Random(seed)
    for _ in range(many):
        yield mixed([things] * source.randint(1, 12), source)
