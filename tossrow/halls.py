"""Halls: rows that are thrown turn by turn, and changed on the way."""

from tossrow.errors import Clash, NoLog, NoRow, NoTurn, NoWay
from tossrow.rows import TOP_HEIGHT
from tossrow.states import comes_down, state_at
from tossrow.ways import way_onto
from tossrow.whole import is_whole

MOST_AHEAD = 400


class Hall:
    """A hall that goes by a row from its turn 0, till it is changed to another one."""

    def __init__(self, row):
        state = state_at(row)
        self._turn = 0
        self._coming = _numbered(state)
        self._go_by([], row)
        self._log = [("begin", tuple(row))]

    def turn(self):
        """The number of the next turn."""
        return self._turn

    def state(self):
        """What comes down how many turns from now, as bits of a number."""
        return sum([1 << turns for thing, turns in self.air()])

    def air(self):
        """The pairs of a thing and in how many turns it comes down, the sooner ahead."""
        return [(thing, turns) for turns, thing in enumerate(self._coming) if thing is not None]

    def ahead(self, many):
        """The next heights, so many, if no row is changed."""
        if not is_whole(many) or not 0 <= many <= MOST_AHEAD:
            raise NoTurn(f"0 to {MOST_AHEAD} heights are told ahead")
        return [self._height_at(self._turn + later) for later in range(many)]

    def step(self):
        """Do the next turn, and tell it: its number, the thing (None for none) and the height."""
        turn = self._turn
        thing = self._coming[0]
        height = self._height_at(turn)
        coming = [*self._coming, None]
        # At height 0 there is no thing, and the place of the hand is left at once.
        coming[height] = thing
        self._coming = coming[1:]
        self._turn = turn + 1
        self._log.append(("step", thing, height))
        return (turn, thing, height)

    def change(self, row):
        """Go by another row, behind the way to it."""
        heights = way_onto(self.state(), row)
        self._go_by(heights, row)
        self._log.append(("change", tuple(row)))

    def log(self):
        """All that was done: the begin, the steps and the changes."""
        return list(self._log)

    def _go_by(self, heights, row):
        self._start = self._turn
        self._way = heights
        self._row = tuple(row)

    def _height_at(self, turn):
        """The height at a turn from the next one on."""
        done = turn - self._start
        if done < len(self._way):
            return self._way[done]
        return self._row[(done - len(self._way)) % len(self._row)]


def replayed(log):
    """The hall behind all that a log tells."""
    if not isinstance(log, list) or len(log) == 0:
        raise NoLog(0)
    hall = _begun(log[0])
    for at in range(1, len(log)):
        if not _is_done(hall, log[at]):
            raise NoLog(at)
    return hall


def _numbered(state):
    """The things by the turns in which they come down first, None where none does."""
    coming = []
    many = 0
    for turns in range(TOP_HEIGHT):
        if comes_down(state, turns):
            coming.append(many)
            many += 1
        else:
            coming.append(None)
    return coming


def _begun(told):
    if not _tells_row(told, "begin"):
        raise NoLog(0)
    try:
        return Hall(told[1])
    except (NoRow, Clash):
        raise NoLog(0) from None


def _is_done(hall, told):
    """Do what a row of a log tells, and tell whether it is what comes then."""
    if _tells_row(told, "change"):
        return _is_changed(hall, told[1])
    if not _is_deed(told, "step", 3):
        return False
    done = hall.step()
    return _is_same(told[1], done[1]) and _is_same(told[2], done[2])


def _is_changed(hall, row):
    try:
        hall.change(row)
    except (NoRow, Clash, NoWay):
        return False
    return True


def _tells_row(told, word):
    # A log has its rows as tuples: a list is of no such form, even if it would be a row.
    return _is_deed(told, word, 2) and isinstance(told[1], tuple)


def _is_deed(told, word, length):
    return isinstance(told, tuple) and len(told) == length and told[0] == word


def _is_same(told, done):
    # Python takes True and 1.0 for 1, the document doesn't.
    if done is None:
        return told is None
    return is_whole(told) and told == done
