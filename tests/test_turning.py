import inspect
import itertools
import unittest

from tests.samples import (CLASHES, GOING, NO_ROWS, NOT_NUMBERS, chance_rows, go_on, goes_on, going_rows,
                           nearly_going_rows, short_rows)
from tests.test_rows import refusal_of
from tests.test_states import NO_TURNS
from tossrow import turning
from tossrow.errors import Clash, NoRow, NoThrow, NoTurn, TossError
from tossrow.rows import clash, orbits, things
from tossrow.states import state_at
from tossrow.turning import backward, exchanged, repeated, turned

NO_MANY = [0, -1, -40, -10 ** 21, *NOT_NUMBERS]


class TestInterface(unittest.TestCase):
    def test_names_and_arguments(self):
        for name, given in (("turned", "(row, by)"), ("repeated", "(row, many)"),
                            ("exchanged", "(row, one, other)"), ("backward", "(row)")):
            told = getattr(turning, name)
            self.assertEqual(str(inspect.signature(told)), given)
            self.assertEqual(told.__module__, "tossrow.turning")

    def test_arguments_by_name(self):
        self.assertEqual(turned(by=1, row=[5, 3, 1]), [3, 1, 5])
        self.assertEqual(repeated(many=2, row=[5, 1]), [5, 1, 5, 1])
        self.assertEqual(exchanged(other=1, one=0, row=[5, 3, 1]), [4, 4, 1])
        self.assertEqual(backward(row=[5, 3, 1]), [1, 5, 3])

    def test_all_refuse_no_rows_first(self):
        for thing in NO_ROWS:
            with self.subTest(kind=thing.__class__):
                for given in (0, 1, -1, 41, True, None, "0"):
                    self.assertRaises(NoRow, turned, thing, given)
                    self.assertRaises(NoRow, repeated, thing, given)
                    self.assertRaises(NoRow, exchanged, thing, given, 1)
                    self.assertRaises(NoRow, exchanged, thing, 0, given)
                self.assertRaises(NoRow, backward, thing)
        self.assertRaises(NoRow, backward, [2, 1, 10])


class TestTurned(unittest.TestCase):
    def test_named_rows(self):
        for row, by, told in (
                ([5, 3, 1], 0, [5, 3, 1]), ([5, 3, 1], 1, [3, 1, 5]), ([5, 3, 1], 2, [1, 5, 3]),
                ([5, 3, 1], 3, [5, 3, 1]), ((5, 3, 1), 4, [3, 1, 5]), ([9], 7, [9]), ([2, 1], 1, [1, 2]),
                ([5, 3, 1], 10 ** 21, [3, 1, 5]), ([5, 3, 1], 10 ** 21 - 1, [5, 3, 1])):
            with self.subTest(row=row, by=by):
                self.assertEqual(turned(row, by), told)

    def test_height_at_turn_0_is_that_at_the_turn(self):
        for row in [*GOING, *chance_rows(100, 31)]:
            for by in (*range(2 * len(row) + 1), 10 ** 9 + 7, 10 ** 20 + 13):
                told = turned(row, by)
                self.assertIs(type(told), list)
                self.assertEqual(len(told), len(row))
                for turn in range(len(row)):
                    self.assertEqual(told[turn], row[(turn + by) % len(row)])

    def test_keeps_what_is_told(self):
        for row in [*GOING, *going_rows(60, 32)]:
            for by in range(len(row)):
                told = turned(row, by)
                self.assertIsNone(clash(told))
                self.assertEqual(things(told), things(row))
                self.assertEqual(state_at(told), state_at(row, by))
                self.assertEqual(sorted((len(turns), many) for turns, many in orbits(told)),
                                 sorted((len(turns), many) for turns, many in orbits(row)))
        for row in nearly_going_rows(60, 33):
            self.assertEqual(clash(turned(row, 3)) is None, clash(row) is None)

    def test_no_turns(self):
        for by in NO_TURNS:
            for row in ([3], [5, 3, 1], [2, 1], (0,), [9] * 40):
                with self.subTest(row=row, kind=by.__class__):
                    self.assertRaises(NoTurn, turned, row, by)
        self.assertRaises(TossError, turned, [3], -1)
        self.assertRaises(ValueError, turned, [3], -1)


class TestRepeated(unittest.TestCase):
    def test_named_rows(self):
        for row, many, told in (
                ([5, 3, 1], 1, [5, 3, 1]), ([5, 1], 2, [5, 1, 5, 1]), ((5, 1), 3, [5, 1, 5, 1, 5, 1]),
                ([2, 1], 2, [2, 1, 2, 1]), ([7], 40, [7] * 40), ([9] * 40, 1, [9] * 40),
                ([5, 1] * 10, 2, [5, 1] * 20), ([5, 3, 1], 13, [5, 3, 1] * 13)):
            with self.subTest(row=row, many=many):
                self.assertEqual(repeated(row, many), told)
                self.assertIs(type(repeated(row, many)), list)

    def test_at_most_40_heights(self):
        for length in range(1, 41):
            row = [3] * length
            for many in range(1, 43):
                if length * many <= 40:
                    self.assertEqual(repeated(row, many), [3] * (length * many))
                else:
                    self.assertRaises(NoRow, repeated, row, many)
        self.assertRaises(NoRow, repeated, [3], 10 ** 21)
        self.assertRaises(NoRow, repeated, [5, 3, 1], 14)

    def test_keeps_what_is_told(self):
        for row in [*GOING, *going_rows(100, 34)]:
            for many in range(1, 40 // len(row) + 1):
                told = repeated(row, many)
                self.assertIsNone(clash(told))
                self.assertEqual(things(told), things(row))
                for turn in (0, 1, len(row), 77):
                    self.assertEqual(state_at(told, turn), state_at(row, turn))
        for row in [*(row for row, _ in CLASHES), *nearly_going_rows(60, 35)]:
            for many in range(1, 40 // len(row) + 1):
                self.assertEqual(clash(repeated(row, many)) is None, clash(row) is None)

    def test_no_many(self):
        for many in NO_MANY:
            for row in ([3], [5, 3, 1], [2, 1], (0,), [9] * 40):
                with self.subTest(row=row, kind=many.__class__):
                    self.assertRaises(NoRow, repeated, row, many)
        self.assertRaises(TossError, repeated, [3], 0)
        self.assertRaises(ValueError, repeated, [3], 0)


class TestExchanged(unittest.TestCase):
    def test_named_rows(self):
        for row, one, other, told in (
                ([5, 3, 1], 0, 1, [4, 4, 1]), ([4, 4, 1], 0, 1, [5, 3, 1]), ((5, 3, 1), 0, 2, [3, 3, 3]),
                ([3, 3, 3], 0, 1, [4, 2, 3]), ([3, 3, 3], 1, 2, [3, 4, 2]), ([3, 3, 3], 0, 2, [5, 3, 1]),
                ([1, 1], 0, 1, [2, 0]), ([2, 0], 0, 1, [1, 1]), ([8, 8], 0, 1, [9, 7]),
                ([2, 1], 0, 1, [2, 1]), ([9] + [0] * 39, 0, 9, [9] + [0] * 39), ([9, 8], 0, 1, [9, 8])):
            with self.subTest(row=row, one=one, other=other):
                self.assertEqual(exchanged(row, one, other), told)
                self.assertIs(type(exchanged(row, one, other)), list)

    def test_throws_come_down_where_the_other_ones_did(self):
        for row in [*chance_rows(100, 36), *going_rows(100, 37)]:
            for one, other in itertools.combinations(range(len(row)), 2):
                heights = list(row)
                heights[one] = other + row[other] - one
                heights[other] = one + row[one] - other
                if 0 <= min(heights) and max(heights) <= 9:
                    told = exchanged(row, one, other)
                    self.assertEqual(told, heights)
                    self.assertEqual(exchanged(told, one, other), row)
                else:
                    self.assertRaises(NoThrow, exchanged, row, one, other)

    def test_short_rows_go_on_just_where_they_did(self):
        for row in short_rows():
            for one, other in itertools.combinations(range(len(row)), 2):
                try:
                    told = exchanged(row, one, other)
                except NoThrow:
                    continue
                self.assertEqual(goes_on(told), goes_on(row))
                self.assertEqual(sum(told), sum(row))
                self.assertEqual(exchanged(told, one, other), list(row))

    def test_longer_rows_go_on_just_where_they_did(self):
        for row in [*nearly_going_rows(60, 38), *going_rows(60, 39)]:
            for one, other in itertools.combinations(range(len(row)), 2):
                if row[other] + other - one <= 9 and row[one] - other + one >= 0:
                    told = exchanged(row, one, other)
                    self.assertEqual(clash(told) is None, clash(row) is None)
                    if clash(row) is None:
                        self.assertEqual(things(told), things(row))

    def test_no_turns(self):
        for row in ([3], [5, 3, 1], [2, 1], (0, 0), [9] * 40):
            many = len(row)
            for one, other in ((0, 0), (many - 1, many - 1), (0, many), (many - 1, many), (-1, 0), (-1, 1), (1, 0),
                               (-2, -1), (0, -1), (many, many + 1), (0, 10 ** 21), (-10 ** 21, 0)):
                with self.subTest(row=row, one=one, other=other):
                    self.assertRaises(NoTurn, exchanged, row, one, other)
        self.assertRaises(TossError, exchanged, [3, 3], 1, 0)
        self.assertRaises(ValueError, exchanged, [3, 3], 1, 0)

    def test_no_numbers(self):
        for thing in NOT_NUMBERS:
            for turn in (0, 1, 2, -1, thing):
                with self.subTest(kind=thing.__class__, turn=turn):
                    self.assertRaises(NoTurn, exchanged, [5, 3, 1], thing, turn)
                    self.assertRaises(NoTurn, exchanged, [5, 3, 1], turn, thing)

    def test_no_throws(self):
        for row, one, other in (([0, 0], 0, 1), ([9, 9], 0, 1), ([3, 9], 0, 1), ([0, 3], 0, 1),
                                ([1, 5, 5], 0, 2), ([9, 1, 8], 0, 2), ([9] + [1] * 39, 0, 10), ([5] * 40, 0, 39)):
            with self.subTest(row=row):
                self.assertRaises(NoThrow, exchanged, row, one, other)
        self.assertRaises(NoTurn, exchanged, [0, 0], 1, 0)
        self.assertRaises(TossError, exchanged, [0, 0], 0, 1)
        self.assertRaises(ValueError, exchanged, [0, 0], 0, 1)


class TestBackward(unittest.TestCase):
    def test_named_rows(self):
        for row, told in (
                ([0], [0]), ([1], [1]), ([9], [9]), ([3, 3], [3, 3]), ([5, 3, 1], [1, 5, 3]),
                ([2, 0], [2, 0]), ([0, 2], [0, 2]), ((5, 1), [1, 5]), ([4, 4, 1], [1, 4, 4]),
                ([4, 2, 3], [2, 3, 4]), ((2, 0, 1), [1, 2, 0]), ([4, 5, 3, 0], [4, 0, 5, 3])):
            with self.subTest(row=row):
                self.assertEqual(backward(row), told)
                self.assertIs(type(backward(row)), list)

    def test_throws_back_what_comes_down(self):
        for row in [*GOING, *going_rows(200, 40), *(row for row in short_rows() if goes_on(row))]:
            told = backward(row)
            self.assertEqual(len(told), len(row))
            for turn, height in enumerate(row):
                self.assertEqual(told[-(turn + height) % len(row)], height)

    def test_backward_again_it_is_as_it_was(self):
        for row in [*GOING, *going_rows(200, 41), *(row for row in short_rows() if goes_on(row))]:
            self.assertEqual(backward(backward(row)), list(row))

    def test_keeps_what_is_told(self):
        for row in [*GOING, *going_rows(100, 42)]:
            told = backward(row)
            go_on(told, 30 // len(row) + 2)
            self.assertIsNone(clash(told))
            self.assertEqual(things(told), things(row))
            self.assertEqual(sorted(told), sorted(row))
            self.assertEqual(sorted((len(turns), many) for turns, many in orbits(told)),
                             sorted((len(turns), many) for turns, many in orbits(row)))

    def test_clash_with_its_fields(self):
        for row, pair in CLASHES:
            refusal = refusal_of(Clash, backward, row)
            self.assertEqual((refusal.one, refusal.other), pair)


class TestNothingIsKept(unittest.TestCase):
    def test_rows_stay_as_they_were(self):
        for row in ([5, 3, 1], [2, 1], [4, 5, 3, 0], [10], [True], [0, 0]):
            was = list(row)
            for told, given in ((turned, (1,)), (turned, (-1,)), (repeated, (2,)), (repeated, (0,)), (repeated, (41,)),
                                (exchanged, (0, 1)), (exchanged, (1, 0)), (backward, ())):
                try:
                    told(row, *given)
                except TossError:
                    pass
                self.assertEqual(row, was)
                self.assertEqual([type(height) for height in row], [type(height) for height in was])

    def test_what_is_told_is_a_list_of_its_own(self):
        row = [3, 3]
        for told, given in ((turned, (0,)), (turned, (2,)), (repeated, (1,)), (exchanged, (0, 1)), (backward, ())):
            first = told(row, *given)
            self.assertIsNot(first, row)
            was = list(first)
            first.append(8)
            first[0] = 7
            self.assertEqual(row, [3, 3])
            self.assertEqual(told(row, *given), was)
