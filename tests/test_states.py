import inspect
import unittest

from tests.samples import (CLASHES, GOING, NO_ROWS, NOT_NUMBERS, goes_on, going_rows, plain_state,
                           short_rows)
from tossrow import states
from tossrow.errors import Clash, NoRow, NoState, NoThrow, NoTurn, TossError
from tossrow.rows import things
from tossrow.states import lets, state_at, thrown

NO_STATES = [-1, 512, 513, 1024, -512, 10 ** 21, -10 ** 21, 10 ** 5000, -10 ** 5000,
             "511", [0], {0: 1}, object(), *NOT_NUMBERS]
NO_TURNS = [-1, -2, -40, -10 ** 21, -10 ** 5000, "0", object(), *NOT_NUMBERS]
NO_HEIGHTS = [-1, -9, 10, 11, 512, 10 ** 21, 10 ** 5000, -10 ** 5000, "0", object(), {5}, [5], 5.0, *NOT_NUMBERS]


def bits(state):
    return {place for place in range(20) if state & 2 ** place}


class TestInterface(unittest.TestCase):
    def test_names_and_arguments(self):
        for name, given in (("lets", "(state)"), ("thrown", "(state, height)"), ("state_at", "(row, turn=0)")):
            told = getattr(states, name)
            self.assertEqual(str(inspect.signature(told)), given)
            self.assertEqual(told.__module__, "tossrow.states")

    def test_arguments_by_name(self):
        self.assertEqual(lets(state=0), [0])
        self.assertEqual(thrown(height=1, state=1), 1)
        self.assertEqual(state_at(turn=1, row=[5, 3, 1]), 19)


class TestLets(unittest.TestCase):
    def test_named_states(self):
        for state, heights in (
                (0, [0]),
                (1, [1, 2, 3, 4, 5, 6, 7, 8, 9]),
                (2, [0]),
                (3, [2, 3, 4, 5, 6, 7, 8, 9]),
                (7, [3, 4, 5, 6, 7, 8, 9]),
                (257, [1, 2, 3, 4, 5, 6, 7, 9]),
                (255, [8, 9]),
                (256, [0]),
                (341, [1, 3, 5, 7, 9]),
                (510, [0]),
                (511, [9])):
            with self.subTest(state=state):
                self.assertEqual(lets(state), heights)

    def test_all_states(self):
        for state in range(512):
            heights = [0] if 0 not in bits(state) else sorted(set(range(1, 10)) - bits(state))
            told = lets(state)
            self.assertEqual(told, heights)
            self.assertIs(type(told), list)
            self.assertEqual({type(height) for height in told}, {int})

    def test_no_states(self):
        for thing in NO_STATES:
            with self.subTest(kind=thing.__class__):
                self.assertRaises(NoState, lets, thing)
        self.assertRaises(TossError, lets, 512)
        self.assertRaises(ValueError, lets, 512)

    def test_what_is_told_is_the_askers_own(self):
        for state, heights in ((0, [0]), (511, [9]), (255, [8, 9])):
            told = lets(state)
            self.assertIsNot(lets(state), told)
            told.append(4)
            told[0] = 7
            self.assertEqual(lets(state), heights)
            self.assertRaises(NoThrow, thrown, state, 7)


class TestThrown(unittest.TestCase):
    def test_named_throws(self):
        for state, height, behind in (
                (0, 0, 0), (2, 0, 1), (510, 0, 255), (256, 0, 128), (4, 0, 2),
                (1, 1, 1), (1, 2, 2), (1, 3, 4), (1, 9, 256), (3, 2, 3), (3, 9, 257),
                (7, 3, 7), (7, 5, 19), (7, 9, 259), (255, 8, 255), (255, 9, 383), (511, 9, 511), (257, 9, 384)):
            with self.subTest(state=state, height=height):
                self.assertEqual(thrown(state, height), behind)

    def test_each_height_from_each_state(self):
        for state in range(512):
            heights = lets(state)
            for height in range(-2, 13):
                if height in heights:
                    air = bits(state) | ({height} if height else set())
                    behind = {place - 1 for place in air if place > 0}
                    told = thrown(state, height)
                    self.assertEqual(bits(told), behind)
                    self.assertIs(type(told), int)
                    self.assertTrue(0 <= told <= 511)
                else:
                    self.assertRaises(NoThrow, thrown, state, height)

    def test_as_many_things_as_ahead(self):
        for state in range(512):
            for height in lets(state):
                self.assertEqual(len(bits(thrown(state, height))), len(bits(state)))

    def test_no_heights(self):
        for height in NO_HEIGHTS:
            for state in (0, 1, 2, 3, 510, 511):
                with self.subTest(state=state, kind=height.__class__):
                    self.assertRaises(NoThrow, thrown, state, height)
        self.assertRaises(TossError, thrown, 511, 8)
        self.assertRaises(ValueError, thrown, 511, 8)

    def test_no_state_ahead_of_no_throw(self):
        for thing in NO_STATES:
            for height in (0, 1, 9, -1, 10, None, True, "1"):
                with self.subTest(kind=thing.__class__, height=height):
                    self.assertRaises(NoState, thrown, thing, height)


class TestStateAt(unittest.TestCase):
    def test_named_rows(self):
        for row, told in (
                ([0], [0, 0]), ([1], [1, 1]), ([9], [511, 511]), ([8], [255, 255]), ([5], [31]),
                ([5, 3, 1], [7, 19, 13, 7]),
                ([2, 0], [1, 2, 1, 2]), ([0, 2], [2, 1]), ([6, 0], [21, 42]), ([3, 3], [7, 7]),
                ([4, 4, 1], [7, 11, 13]),
                ([0] * 40, [0] * 41), ([9] * 40, [511] * 41)):
            for turn, state in enumerate(told):
                with self.subTest(row=row, turn=turn):
                    self.assertEqual(state_at(row, turn), state)
                    self.assertEqual(state_at(tuple(row), turn), state)
                    self.assertIs(type(state_at(row, turn)), int)

    def test_turn_0_where_none_is_told(self):
        for row in [*GOING, *going_rows(50, 11)]:
            self.assertEqual(state_at(row), state_at(row, 0))
            self.assertEqual(state_at(row), plain_state(row, 0))

    def test_as_a_plain_going_on(self):
        for row in [*GOING, *going_rows(60, 12)]:
            for turn in range(2 * len(row) + 1):
                self.assertEqual(state_at(row, turn), plain_state(row, turn))

    def test_short_rows_as_a_plain_going_on(self):
        for row in short_rows():
            if goes_on(row):
                for turn in range(len(row)):
                    self.assertEqual(state_at(row, turn), plain_state(row, turn), row)

    def test_as_the_throws_lead(self):
        for row in [*GOING, *going_rows(200, 13)]:
            state = state_at(row)
            for turn in range(2 * len(row)):
                self.assertEqual(len(bits(state)), things(row))
                height = row[turn % len(row)]
                self.assertIn(height, lets(state))
                state = thrown(state, height)
                self.assertEqual(state, state_at(row, turn + 1))
            self.assertEqual(state, state_at(row))

    def test_far_turns(self):
        for row in [*GOING, *going_rows(50, 14)]:
            for turn in (399, 400, 10 ** 9 + 7, 10 ** 20 + 13, 10 ** 21):
                self.assertEqual(state_at(row, turn), plain_state(row, turn % len(row)))

    def test_no_rows(self):
        for thing in NO_ROWS:
            for turn in (0, 1, -1, None, True, "0"):
                with self.subTest(kind=thing.__class__, turn=turn):
                    self.assertRaises(NoRow, state_at, thing, turn)
            self.assertRaises(NoRow, state_at, thing)

    def test_clash_ahead_of_no_turn(self):
        for row, pair in CLASHES:
            for turn in (0, 3, -1, None, True, "0"):
                with self.subTest(row=row, turn=turn):
                    with self.assertRaises(Clash) as caught:
                        state_at(row, turn)
                    self.assertEqual((caught.exception.one, caught.exception.other), pair)

    def test_no_turns(self):
        for turn in NO_TURNS:
            for row in ([3], [5, 3, 1], (0,), [9] * 40):
                with self.subTest(row=row, kind=turn.__class__):
                    self.assertRaises(NoTurn, state_at, row, turn)
        self.assertRaises(TossError, state_at, [3], -1)
        self.assertRaises(ValueError, state_at, [3], -1)

    def test_rows_stay_as_they_were(self):
        for row in ([5, 3, 1], [2, 1], [4, 5, 3, 0], [10]):
            was = list(row)
            for turn in (0, 2, -1):
                try:
                    state_at(row, turn)
                except TossError:
                    pass
                self.assertEqual(row, was)

    def test_a_changed_row_is_looked_at_anew(self):
        row = [5, 3, 1]
        self.assertEqual(state_at(row, 1), 19)
        row[0], row[1] = 4, 4
        self.assertEqual(state_at(row, 1), 11)
        row[2] = 2
        self.assertRaises(Clash, state_at, row, 1)
        row[2] = 1
        self.assertEqual(state_at(row, 1), 11)
