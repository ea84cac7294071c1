import inspect
import itertools
import random
import unittest

from tests.samples import CLASHES, GOING, NO_ROWS, goes_on, going_rows, going_rows_of
from tests.test_states import NO_STATES
from tossrow import ways
from tossrow.errors import Clash, NoRow, NoState, NoWay, TossError
from tossrow.rows import clash, things
from tossrow.states import state_at, thrown
from tossrow.ways import bridge, way


def states_of(many):
    return [state for state in range(512) if state.bit_count() == many]


def led(state, heights):
    """The state behind these throws, None where one of them can't be done."""
    for height in heights:
        if (height == 0) == state % 2 or state >> height & 1 and height > 0:
            return None
        state = (state | 1 << height if height > 0 else state) >> 1
    return state


def first_leading(one, other):
    """Of all rows of throws, the shorter ones first and rising, the first that leads there."""
    for many in range(12):
        for heights in rows_of_throws(one, many):
            if led(one, heights) == other:
                return heights


def rows_of_throws(state, many):
    if many == 0:
        yield []
    else:
        for height in range(10):
            behind = led(state, [height])
            if behind is not None:
                for heights in rows_of_throws(behind, many - 1):
                    yield [height, *heights]


def least_ways_to(other, states):
    """The least shortest way from each of these states to the other, by going back from there."""
    found = {other: []}
    while len(found) < len(states):
        more = {}
        for state in states:
            behind = [(height, led(state, [height])) for height in range(10)]
            lead = [[height, *found[reached]] for height, reached in behind if reached in found]
            if state not in found and lead:
                more[state] = min(lead)
        found.update(more)
    return found


class TestInterface(unittest.TestCase):
    def test_names_and_arguments(self):
        for name in ("way", "bridge"):
            told = getattr(ways, name)
            self.assertEqual(str(inspect.signature(told)), "(one, other)")
            self.assertEqual(told.__module__, "tossrow.ways")

    def test_arguments_by_name(self):
        self.assertEqual(way(other=4, one=1), [3])
        self.assertEqual(bridge(other=[3], one=[5, 1]), ([2], [4]))


class TestWay(unittest.TestCase):
    def test_named_ways(self):
        for one, other, heights in (
                (0, 0, []), (1, 1, []), (511, 511, []), (7, 7, []),
                (1, 2, [2]), (1, 256, [9]), (2, 1, [0]), (256, 1, [0] * 8),
                (2, 4, [0, 3]), (256, 128, [0]), (128, 256, [0] * 7 + [9]),
                (7, 19, [5]), (19, 13, [3]), (13, 7, [1]), (19, 7, [2, 2]), (11, 7, [2]),
                (7, 448, [9, 9, 9]), (448, 7, [0] * 6), (255, 383, [9]), (383, 255, [7])):
            with self.subTest(one=one, other=other):
                self.assertEqual(way(one, other), heights)

    def test_kinds_of_values(self):
        for one, other in ((7, 7), (7, 448), (448, 7)):
            told = way(one, other)
            self.assertIs(type(told), list)
            self.assertEqual({type(height) for height in told} - {int}, set())

    def test_none_from_a_state_to_itself(self):
        for state in range(512):
            self.assertEqual(way(state, state), [])

    def test_leads_between_any_two_states_of_as_many_bits(self):
        for many in range(10):
            states = states_of(many)
            for one in states:
                for other in states:
                    self.assertEqual(led(one, way(one, other)), other)

    def test_each_throw_is_let(self):
        source = random.Random(21)
        for _ in range(300):
            states = states_of(source.randint(1, 8))
            state, other = source.choice(states), source.choice(states)
            for height in way(state, other):
                state = thrown(state, height)
            self.assertEqual(state, other)

    def test_shortest_and_least_of_all_rows_of_throws(self):
        small = range(64)
        pairs = [pair for pair in itertools.product(small, small) if pair[0].bit_count() == pair[1].bit_count()]
        for many in (1, 8):
            pairs.extend(itertools.product(states_of(many), states_of(many)))
        source = random.Random(22)
        pairs.extend([source.choice(states_of(many)), source.choice(states_of(many))]
                     for many in range(2, 8) for _ in range(25))
        for one, other in pairs:
            self.assertEqual(way(one, other), first_leading(one, other), (one, other))

    def test_shortest_and_least_by_going_back(self):
        source = random.Random(23)
        for many in range(10):
            states = states_of(many)
            for other in source.sample(states, min(6, len(states))):
                for one, heights in least_ways_to(other, states).items():
                    self.assertEqual(way(one, other), heights, (one, other))

    def test_no_states(self):
        for thing in NO_STATES:
            for state in (0, 1, 511):
                with self.subTest(kind=thing.__class__, state=state):
                    self.assertRaises(NoState, way, thing, state)
                    self.assertRaises(NoState, way, state, thing)
            self.assertRaises(NoState, way, thing, thing)

    def test_no_way(self):
        for one, other in ((0, 1), (1, 0), (1, 3), (3, 1), (7, 511), (511, 0), (510, 511), (257, 256)):
            self.assertRaises(NoWay, way, one, other)
        for one, other in itertools.product(range(0, 512, 7), range(0, 512, 5)):
            if one.bit_count() != other.bit_count():
                self.assertRaises(NoWay, way, one, other)
        self.assertRaises(TossError, way, 0, 1)
        self.assertRaises(ValueError, way, 0, 1)

    def test_what_is_told_is_the_askers_own(self):
        for one, other, heights in ((7, 7, []), (7, 448, [9, 9, 9])):
            told = way(one, other)
            told.append(4)
            told[0] = 9
            self.assertEqual(way(one, other), heights)


class TestBridge(unittest.TestCase):
    def test_named_bridges(self):
        for one, other, pair in (
                ([3], [5, 3, 1], ([], [])),
                ([3], [3], ([], [])),
                ([0], (0, 0), ([], [])),
                ([9], [9] * 40, ([], [])),
                ([3], [5, 1], ([4], [2])),
                ([5, 1], (3,), ([2], [4])),
                ([2, 0], [0, 2], ([2], [0])),
                ((6, 0), [3], ([1, 2], [4, 5])),
                ([7, 1], [4], ([2, 3], [5, 6]))):
            with self.subTest(one=one, other=other):
                self.assertEqual(bridge(one, other), pair)

    def test_kinds_of_values(self):
        told = bridge([3], (5, 1))
        self.assertIs(type(told), tuple)
        self.assertEqual([type(heights) for heights in told], [list, list])

    def test_is_the_pair_of_the_ways(self):
        for many in range(10):
            for one, other in zip(going_rows_of(20, many, 24), going_rows_of(20, many, 25)):
                near, far = state_at(one), state_at(other)
                self.assertEqual(bridge(one, other), (way(near, far), way(far, near)))

    def test_joined_rows_go_on(self):
        for many in range(10):
            for one, other in zip(going_rows_of(30, many, 26), going_rows_of(30, many, 27)):
                there, back = bridge(one, other)
                for often, again in ((1, 1), (2, 1), (1, 3), (4, 2)):
                    joined = one * often + there + other * again + back
                    self.assertTrue(goes_on(joined), joined)
                    if len(joined) <= 40:
                        self.assertIsNone(clash(joined))
                        self.assertEqual(things(joined), many)

    def test_no_rows_and_clashes_of_one_ahead_of_other(self):
        clashing, pair = CLASHES[-1]
        other_clashing, other_pair = CLASHES[0]
        for thing in NO_ROWS:
            with self.subTest(kind=thing.__class__):
                for row in ([3], [1], clashing, thing):
                    self.assertRaises(NoRow, bridge, thing, row)
                for row in ([3], [1]):
                    self.assertRaises(NoRow, bridge, row, thing)
                self.assertEqual(clash_of(clashing, thing), pair)
        for row in ([3], [1], [0]):
            self.assertEqual(clash_of(clashing, row), pair)
            self.assertEqual(clash_of(row, clashing), pair)
        self.assertEqual(clash_of(clashing, other_clashing), pair)
        self.assertEqual(clash_of(other_clashing, clashing), other_pair)

    def test_no_way_between_rows_of_more_and_fewer_things(self):
        for one, other in itertools.product(GOING, GOING):
            if things(one) != things(other):
                self.assertRaises(NoWay, bridge, one, other)
        self.assertRaises(TossError, bridge, [3], [2])
        self.assertRaises(ValueError, bridge, [3], [2])

    def test_rows_stay_as_they_were(self):
        for one, other in zip(going_rows(40, 28), going_rows(40, 29)):
            was = (list(one), list(other))
            try:
                bridge(one, other)
            except NoWay:
                pass
            self.assertEqual((one, other), was)

    def test_what_is_told_is_the_askers_own(self):
        one, other = [5, 1], [3]
        told = bridge(one, other)
        was = (list(told[0]), list(told[1]))
        again = bridge(one, other)
        again[0].append(7)
        again[1].clear()
        one.append(10)
        other[0] = 4
        self.assertEqual(told, was)
        self.assertEqual(bridge([5, 1], [3]), was)


def clash_of(one, other):
    try:
        bridge(one, other)
    except Clash as refusal:
        return (refusal.one, refusal.other)
    raise AssertionError("Clash is not raised")
