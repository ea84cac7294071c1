"""States: what comes down how many turns from now, as bits of a number."""

from tossrow.errors import NoState, NoThrow, NoTurn
from tossrow.rows import TOP_HEIGHT, need_going
from tossrow.whole import is_whole

TOP_STATE = 511


def need_state(thing):
    """Refuse with NoState what is no state."""
    if not is_whole(thing) or not 0 <= thing <= TOP_STATE:
        raise NoState(f"a state is a whole number from 0 to {TOP_STATE}")


def lets(state):
    """The heights that the state lets, rising."""
    need_state(state)
    return heights_let(state)


def thrown(state, height):
    """The state behind a throw of this height."""
    need_state(state)
    # Only a whole number is looked up: True and 1.0 would be found as 1.
    if not is_whole(height) or height not in heights_let(state):
        raise NoThrow("the state doesn't let this height")
    return state_behind(state, height)


def state_at(row, turn=0):
    """The state of a row that goes on, at a turn."""
    need_going(row)
    if not is_whole(turn) or turn < 0:
        raise NoTurn("a turn is a whole number from 0 on")
    state = 0
    # What was thrown more than TOP_HEIGHT turns ago has come down.
    for ago in range(1, TOP_HEIGHT + 1):
        height = row[(turn - ago) % len(row)]
        if height >= ago:
            state = state | (1 << (height - ago))
    return state


def heights_let(state):
    """The heights that a state lets, rising; for what is known to be a state."""
    if not comes_down(state, 0):
        return [0]
    return [height for height in range(1, TOP_HEIGHT + 1) if not comes_down(state, height)]


def state_behind(state, height):
    """The state behind a throw; for a height that is known to be let."""
    # At height 0 this sets bit 0, which is gone at once: nothing is thrown.
    return (state | (1 << height)) >> 1


def comes_down(state, turns):
    """Tell whether something comes down so many turns from now."""
    return (state >> turns) % 2 == 1
