import inspect
import unittest
from fractions import Fraction

from tests.samples import (CLASHES, GOING, NO_ROWS, NOT_NUMBERS, chance_rows, go_on, goes_on, going_rows,
                           nearly_going_rows, short_rows)
from tossrow import rows
from tossrow.errors import Clash, NoRow, TossError
from tossrow.rows import clash, need_row, orbits, things


def refusal_of(kind, told, *given):
    try:
        told(*given)
    except kind as refusal:
        return refusal
    raise AssertionError(f"{kind.__name__} is not raised")


def first_clash(row):
    """The pair with the least other, straight by the words of the document."""
    many = len(row)
    pairs = [(other, one) for other in range(many) for one in range(other)
             if (one + row[one]) % many == (other + row[other]) % many]
    if not pairs:
        return None
    other, one = min(pairs)
    return (one, other)


class TestInterface(unittest.TestCase):
    def test_names_and_arguments(self):
        for name, given in (("need_row", "(thing)"), ("clash", "(row)"), ("things", "(row)"), ("orbits", "(row)")):
            told = getattr(rows, name)
            self.assertEqual(str(inspect.signature(told)), given)
            self.assertEqual(told.__module__, "tossrow.rows")

    def test_arguments_by_name(self):
        self.assertIsNone(need_row(thing=[3]))
        self.assertIsNone(clash(row=[3]))
        self.assertEqual(things(row=[3]), 3)
        self.assertEqual(orbits(row=[3]), [((0,), 3)])


class TestNeedRow(unittest.TestCase):
    def test_rows(self):
        for height in range(10):
            for kind in (list, tuple):
                self.assertIsNone(need_row(kind([height])))
                self.assertIsNone(need_row(kind([height] * 40)))
        for row in (list(range(10)), (9, 0), [2, 1], [0] * 39 + [9]):
            self.assertIsNone(need_row(row))
        for many in range(1, 41):
            self.assertIsNone(need_row([5] * many))

    def test_no_rows(self):
        for thing in NO_ROWS:
            with self.subTest(kind=thing.__class__):
                self.assertRaises(NoRow, need_row, thing)

    def test_no_number_among_the_heights(self):
        for height in NOT_NUMBERS:
            for row in ([height], [height, 3, 3], [3, 3, height], (height,), (3, height, 3)):
                with self.subTest(row=row):
                    self.assertRaises(NoRow, need_row, row)

    def test_taken_as_toss_error_and_value_error(self):
        self.assertRaises(TossError, need_row, [10])
        self.assertRaises(ValueError, need_row, [10])

    def test_others_refuse_no_rows_first(self):
        for thing in NO_ROWS:
            for told in (clash, things, orbits):
                with self.subTest(kind=thing.__class__, told=told):
                    self.assertRaises(NoRow, told, thing)

    def test_no_row_ahead_of_clash(self):
        for row in ([2, 1, 10], [2, 1, True], [2, 1] * 21):
            for told in (clash, things, orbits):
                self.assertRaises(NoRow, told, row)


class TestClash(unittest.TestCase):
    def test_named_rows(self):
        for row, pair in CLASHES:
            with self.subTest(row=row):
                self.assertEqual(clash(row), pair)
                self.assertEqual(clash(tuple(row)), pair)
        for row in GOING:
            with self.subTest(row=row):
                self.assertIsNone(clash(row))
                self.assertIsNone(clash(tuple(row)))

    def test_rows_of_one_height_go_on(self):
        for height in range(10):
            self.assertIsNone(clash([height]))
            self.assertIsNone(clash((height,)))

    def test_pair_is_a_tuple_of_numbers(self):
        for row in ([2, 1], (2, 1)):
            pair = clash(row)
            self.assertIs(type(pair), tuple)
            self.assertEqual([type(turn) for turn in pair], [int, int])

    def test_short_rows_go_on_just_where_none_clash(self):
        for row in short_rows():
            self.assertEqual(clash(row), first_clash(row))
            self.assertEqual(clash(row) is None, goes_on(row), row)

    def test_longer_rows_go_on_just_where_none_clash(self):
        for row in [*chance_rows(500, 1), *nearly_going_rows(500, 2), *going_rows(300, 3)]:
            self.assertEqual(clash(row), first_clash(row))
            self.assertEqual(clash(row) is None, goes_on(row), row)
        for row in going_rows(300, 3):
            self.assertIsNone(clash(row))


class TestThings(unittest.TestCase):
    def test_named_rows(self):
        for row, many in (([0], 0), ([9], 9), ([0] * 40, 0), ([9] * 40, 9), ([5, 3, 1], 3), ([5, 1], 3),
                          ([4, 5, 3, 0], 3), ([2, 0], 1), ([9, 7, 5, 3, 1], 5), ([0, 1, 2], 1), ((8, 0, 1), 3)):
            with self.subTest(row=row):
                self.assertEqual(things(row), many)
                self.assertIs(type(things(row)), int)

    def test_mean_of_the_heights_and_of_what_goes_on(self):
        for row in [*going_rows(200, 4), *(row for row in short_rows() if goes_on(row))]:
            self.assertEqual(things(row), Fraction(sum(row), len(row)))
            met = {thing for _, thing, _ in go_on(row, 30)} - {None}
            self.assertEqual(things(row), len(met))

    def test_clash_with_its_fields(self):
        for row in [*(row for row, _ in CLASHES), *nearly_going_rows(100, 5), *chance_rows(100, 6)]:
            pair = first_clash(row)
            if pair is not None:
                for told in (things, orbits):
                    refusal = refusal_of(Clash, told, row)
                    self.assertEqual((refusal.one, refusal.other), pair)


class TestOrbits(unittest.TestCase):
    def test_named_rows(self):
        for row, told in (
                ([0], [((0,), 0)]),
                ([1], [((0,), 1)]),
                ([9], [((0,), 9)]),
                ([3, 3], [((0, 1), 3)]),
                ([2, 2], [((0,), 1), ((1,), 1)]),
                ([2, 0], [((0,), 1), ((1,), 0)]),
                ([0, 0, 0], [((0,), 0), ((1,), 0), ((2,), 0)]),
                ([5, 3, 1], [((0, 2), 2), ((1,), 1)]),
                ([4, 4, 1], [((0, 1, 2), 3)]),
                ([5, 5, 5], [((0, 2, 1), 5)]),
                ([4, 5, 3, 0], [((0,), 1), ((1, 2), 2), ((3,), 0)]),
                ((9, 7, 5, 3, 1), [((0, 4), 2), ((1, 3), 2), ((2,), 1)]),
                ([9] * 10, [((0, 9, 8, 7, 6, 5, 4, 3, 2, 1), 9)])):
            with self.subTest(row=row):
                self.assertEqual(orbits(row), told)

    def test_kinds_of_values(self):
        told = orbits((5, 3, 1))
        self.assertIs(type(told), list)
        for pair in told:
            self.assertIs(type(pair), tuple)
            self.assertEqual((type(pair[0]), type(pair[1])), (tuple, int))

    def test_each_turn_is_in_one_orbit(self):
        for row in [*going_rows(300, 7), *(row for row in short_rows() if goes_on(row))]:
            told = orbits(row)
            turns = [turn for orbit, _ in told for turn in orbit]
            self.assertEqual(sorted(turns), list(range(len(row))))
            firsts = [orbit[0] for orbit, _ in told]
            self.assertEqual(firsts, sorted(firsts))
            self.assertEqual(sum(many for _, many in told), things(row))
            for orbit, many in told:
                self.assertEqual(orbit[0], min(orbit))
                for turn, behind in zip(orbit, orbit[1:] + orbit[:1]):
                    self.assertEqual((turn + row[turn]) % len(row), behind)
                self.assertEqual(many, Fraction(sum(row[turn] for turn in orbit), len(row)))

    def test_things_are_thrown_at_just_the_turns_of_their_orbit(self):
        for row in going_rows(100, 8):
            done = go_on(row, 400)
            turns_of = {}
            for turn, thing, _ in done:
                turns_of.setdefault(thing, set()).add(turn % len(row))
            turns_of.pop(None, None)
            for orbit, many in orbits(row):
                thrown = [thing for thing, turns in turns_of.items() if turns == set(orbit)]
                self.assertEqual(len(thrown), many)
            self.assertEqual(len(turns_of), things(row))


class TestNothingIsKept(unittest.TestCase):
    def test_rows_stay_as_they_were(self):
        for row in ([5, 3, 1], [2, 1], [4, 5, 3, 0], [10], [True]):
            was = list(row)
            for told in (need_row, clash, things, orbits):
                try:
                    told(row)
                except TossError:
                    pass
                self.assertEqual(row, was)
                self.assertEqual([type(height) for height in row], [type(height) for height in was])

    def test_what_is_told_is_the_askers_own(self):
        row = [5, 3, 1]
        told = orbits(row)
        self.assertIsNot(orbits(row), told)
        told.append("more")
        self.assertEqual(orbits(row), [((0, 2), 2), ((1,), 1)])
        row[0] = 4
        row[1] = 4
        self.assertEqual(orbits(row), [((0, 1, 2), 3)])
        self.assertEqual(told, [((0, 2), 2), ((1,), 1), "more"])

    def test_a_changed_row_is_looked_at_anew(self):
        row = [2, 1]
        self.assertEqual(clash(row), (0, 1))
        row[0] = 3
        self.assertIsNone(clash(row))
        self.assertEqual(things(row), 2)
        row.append(10)
        self.assertRaises(NoRow, things, row)

    def test_what_is_refused_changes_nothing(self):
        for _ in range(2):
            self.assertRaises(NoRow, orbits, [10])
            self.assertRaises(Clash, orbits, [2, 1])
            self.assertEqual(orbits([5, 3, 1]), [((0, 2), 2), ((1,), 1)])
            self.assertEqual(things([5, 3, 1]), 3)
