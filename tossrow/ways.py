"""Ways: rows of throws that lead from one state to another."""

from tossrow.errors import NoWay
from tossrow.rows import TOP_HEIGHT
from tossrow.states import comes_down, heights_let, need_state, state_at, state_behind


def way(one, other):
    """A shortest list of heights that leads from one state to the other, of several the least."""
    need_state(one)
    need_state(other)
    if _things_of(one) != _things_of(other):
        raise NoWay("no throws lead to a state of more or fewer things")
    return _shortest(one, other)


def way_onto(state, row):
    """The way from a state to the state of a row at its turn 0."""
    return way(state, state_at(row))


def bridge(one, other):
    """The ways between the states of two rows at their turns 0, there and back."""
    near = state_at(one)
    far = state_at(other)
    return (way(near, far), way(far, near))


def _things_of(state):
    return len([turns for turns in range(TOP_HEIGHT) if comes_down(state, turns)])


def _shortest(one, other):
    ways = {one: []}
    latest = [one]
    while other not in ways:
        latest = _reached_next(ways, latest)
    return ways[other]


def _reached_next(ways, latest):
    """Add the states that one more throw reaches first to the ways, and tell them."""
    reached = []
    # The latest stand in the order of their ways, and heights rise: so what reaches a state
    # first is the least of its shortest ways.
    for state in latest:
        for height in heights_let(state):
            behind = state_behind(state, height)
            if behind not in ways:
                ways[behind] = [*ways[state], height]
                reached.append(behind)
    return reached
