import inspect
import random
import unittest

from tests.samples import CLASHES, GOING, NO_ROWS, NOT_NUMBERS, PlainHall, going_rows, going_rows_of
from tests.test_rows import refusal_of
from tests.test_states import NO_TURNS
from tossrow import halls
from tossrow.errors import Clash, NoLog, NoRow, NoTurn, NoWay, TossError
from tossrow.halls import Hall, replayed
from tossrow.rows import things
from tossrow.states import state_at
from tossrow.ways import way


def look(hall):
    """All that a hall tells."""
    return (hall.turn(), hall.state(), hall.air(), hall.ahead(400), hall.log())


def steps(hall, many):
    return [hall.step() for _ in range(many)]


def hall_by_chance(many, seed):
    """A hall behind so many deeds, and the rows that it went by."""
    source = random.Random(seed)
    rows = list(going_rows_of(6, source.randint(0, 9), seed))
    hall = Hall(rows[0])
    for _ in range(many):
        if source.random() < 0.25:
            hall.change(source.choice(rows))
        else:
            hall.step()
    return hall, rows


class TestInterface(unittest.TestCase):
    def test_names_and_arguments(self):
        self.assertEqual(str(inspect.signature(Hall)), "(row)")
        self.assertEqual(Hall.__module__, "tossrow.halls")
        self.assertEqual(str(inspect.signature(halls.replayed)), "(log)")
        self.assertEqual(halls.replayed.__module__, "tossrow.halls")

    def test_methods_stand_in_the_class_itself(self):
        for name, given in (("turn", ""), ("state", ""), ("air", ""), ("ahead", ", many"), ("step", ""),
                            ("change", ", row"), ("log", "")):
            self.assertEqual(str(inspect.signature(vars(Hall)[name])), f"(self{given})")

    def test_arguments_by_name(self):
        hall = Hall(row=[5, 3, 1])
        self.assertEqual(hall.ahead(many=2), [5, 3])
        self.assertIsNone(hall.change(row=[3]))
        self.assertEqual(replayed(log=hall.log()).log(), hall.log())


class TestBegin(unittest.TestCase):
    def test_named_rows(self):
        for row, state, air in (
                ([0], 0, []), ([1], 1, [(0, 0)]), ([5, 3, 1], 7, [(0, 0), (1, 1), (2, 2)]), ([2, 0], 1, [(0, 0)]),
                ((0, 2), 2, [(0, 1)]), ([6, 0], 21, [(0, 0), (1, 2), (2, 4)]), ([9], 511, [(k, k) for k in range(9)]),
                ([5, 1], 11, [(0, 0), (1, 1), (2, 3)])):
            with self.subTest(row=row):
                hall = Hall(row)
                self.assertEqual((hall.turn(), hall.state(), hall.air()), (0, state, air))
                self.assertEqual(hall.log(), [("begin", tuple(row))])
                self.assertEqual(hall.ahead(41), (list(row) * 41)[:41])

    def test_kinds_of_values(self):
        hall = Hall([2, 0])
        self.assertEqual([type(told) for told in look(hall)], [int, int, list, list, list])
        self.assertEqual([type(pair) for pair in hall.air()], [tuple])
        self.assertEqual([type(told) for told in hall.step()], [int, int, int])
        self.assertIs(type(hall.step()), tuple)

    def test_no_rows_and_clashes(self):
        for thing in NO_ROWS:
            with self.subTest(kind=thing.__class__):
                self.assertRaises(NoRow, Hall, thing)
        for row, pair in CLASHES:
            refusal = refusal_of(Clash, Hall, row)
            self.assertEqual((refusal.one, refusal.other), pair)
        self.assertRaises(NoRow, Hall, [2, 1, 10])


class TestStep(unittest.TestCase):
    def test_named_steps(self):
        for row, done in (
                ([5, 3, 1], [(0, 0, 5), (1, 1, 3), (2, 2, 1), (3, 2, 5), (4, 1, 3), (5, 0, 1), (6, 0, 5)]),
                ([2, 0], [(0, 0, 2), (1, None, 0), (2, 0, 2), (3, None, 0)]),
                ([0, 2], [(0, None, 0), (1, 0, 2), (2, None, 0), (3, 0, 2)]),
                ([0], [(0, None, 0), (1, None, 0)]),
                ([1], [(0, 0, 1), (1, 0, 1)]),
                ([9], [(turn, turn % 9, 9) for turn in range(20)])):
            with self.subTest(row=row):
                self.assertEqual(steps(Hall(row), len(done)), done)

    def test_goes_by_its_row(self):
        for row in [*GOING, *going_rows(60, 51)]:
            hall, plain = Hall(row), PlainHall(row)
            for turn in range(3 * len(row) + 10):
                self.assertEqual(hall.turn(), turn)
                self.assertEqual(hall.state(), state_at(row, turn))
                self.assertEqual(hall.air(), plain.pairs())
                self.assertEqual(hall.step(), plain.step())

    def test_things_are_numbered_as_they_come_down_first(self):
        for row in [*GOING, *going_rows(60, 52)]:
            met = []
            for _, thing, _ in steps(Hall(row), 30):
                if thing is not None and thing not in met:
                    met.append(thing)
            self.assertEqual(met, list(range(things(row))))

    def test_two_halls_by_turns(self):
        one, other = Hall([5, 3, 1]), Hall((5, 3, 1))
        plain = PlainHall([5, 3, 1])
        other.change([5, 1])
        for _ in range(40):
            self.assertEqual(one.step(), plain.step())
            other.step()
            other.change([4, 4, 1])
        self.assertEqual(one.log()[0], ("begin", (5, 3, 1)))
        self.assertEqual({deed[0] for deed in one.log()[1:]}, {"step"})
        self.assertEqual((one.turn(), other.turn()), (40, 40))


class TestAhead(unittest.TestCase):
    def test_next_heights(self):
        for row in [*GOING, *going_rows(20, 53)]:
            hall = Hall(row)
            steps(hall, 5)
            for many in (0, 1, 2, 40, 399, 400):
                told = hall.ahead(many)
                self.assertEqual(told, [row[turn % len(row)] for turn in range(5, 5 + many)])
                self.assertIs(type(told), list)

    def test_is_what_is_thrown(self):
        for seed in range(20):
            hall, rows = hall_by_chance(30, seed)
            hall.change(rows[-1])
            told = hall.ahead(60)
            before = look(hall)
            self.assertEqual(look(hall), before)
            self.assertEqual([height for _, _, height in steps(hall, 60)], told)

    def test_no_turns(self):
        for many in (*NO_TURNS, 401, 402, 10 ** 21, 10 ** 5000):
            for hall in (Hall([3]), Hall([0, 2])):
                with self.subTest(kind=many.__class__):
                    self.assertRaises(NoTurn, hall.ahead, many)
        self.assertRaises(TossError, Hall([3]).ahead, 401)
        self.assertRaises(ValueError, Hall([3]).ahead, -1)


class TestChange(unittest.TestCase):
    def test_named_changes(self):
        hall = Hall([3])
        hall.change([5, 1])
        self.assertEqual(hall.ahead(6), [4, 5, 1, 5, 1, 5])
        self.assertEqual(steps(hall, 3), [(0, 0, 4), (1, 1, 5), (2, 2, 1)])
        self.assertEqual((hall.turn(), hall.state(), hall.air()), (3, 11, [(2, 0), (0, 1), (1, 3)]))
        hall.change((3,))
        self.assertEqual(hall.ahead(4), [2, 3, 3, 3])
        self.assertEqual(steps(hall, 2), [(3, 2, 2), (4, 0, 3)])
        self.assertEqual(hall.log(), [
            ("begin", (3,)), ("change", (5, 1)), ("step", 0, 4), ("step", 1, 5), ("step", 2, 1),
            ("change", (3,)), ("step", 2, 2), ("step", 0, 3)])

    def test_without_a_way_the_row_begins_at_once(self):
        hall = Hall([5, 3, 1])
        hall.step()
        self.assertEqual(hall.ahead(3), [3, 1, 5])
        hall.change([3, 1, 5])
        self.assertEqual(hall.ahead(3), [3, 1, 5])
        hall.change([5, 3, 1])
        self.assertEqual(hall.ahead(5), [2, 2, 5, 3, 1])
        steps(hall, 2)
        hall.change([4, 4, 1])
        self.assertEqual(hall.ahead(4), [4, 4, 1, 4])
        hall = Hall([0])
        hall.change([0, 0])
        self.assertEqual(hall.ahead(2), [0, 0])

    def test_changed_on_the_way_it_leaves_that_way(self):
        hall = Hall([2])
        hall.change([0, 4, 4, 0])
        self.assertEqual(hall.ahead(6), [3, 3, 0, 4, 4, 0])
        self.assertEqual(hall.step(), (0, 0, 3))
        hall.change([2])
        self.assertEqual(hall.ahead(4), [1, 2, 2, 2])
        self.assertEqual(steps(hall, 3), [(1, 1, 1), (2, 1, 2), (3, 0, 2)])

    def test_by_chance_as_a_plain_going_on(self):
        for seed in range(60):
            source = random.Random(seed)
            rows = list(going_rows_of(5, seed % 10, seed))
            hall, plain, log = Hall(rows[0]), PlainHall(rows[0]), [("begin", tuple(rows[0]))]
            for _ in range(80):
                if source.random() < 0.3:
                    row = source.choice(rows)
                    plain.change(way(plain.state(), state_at(row)), row)
                    self.assertIsNone(hall.change(source.choice((list, tuple))(row)))
                    log.append(("change", tuple(row)))
                else:
                    done = plain.step()
                    self.assertEqual(hall.step(), done)
                    log.append(("step", *done[1:]))
                self.assertEqual(look(hall), (plain.turn, plain.state(), plain.pairs(), plain.ahead(400), log))

    def test_behind_the_way_it_goes_by_the_row(self):
        for seed in range(20):
            hall, rows = hall_by_chance(25, seed)
            row = rows[3]
            heights = way(hall.state(), state_at(row))
            hall.change(row)
            steps(hall, len(heights))
            for turn in range(2 * len(row)):
                self.assertEqual(hall.state(), state_at(row, turn))
                self.assertEqual(hall.step()[2], row[turn % len(row)])

    def test_refusals_change_nothing(self):
        for begin in ([5, 3, 1], [3], (4, 2, 3)):
            hall = Hall(begin)
            hall.step()
            hall.change([5, 1])
            told = look(hall)
            for thing in NO_ROWS:
                self.assertRaises(NoRow, hall.change, thing)
            self.assertRaises(NoRow, hall.change, [2, 1, 10])
            for row, pair in CLASHES:
                refusal = refusal_of(Clash, hall.change, row)
                self.assertEqual((refusal.one, refusal.other), pair)
            for row in GOING:
                if things(row) != 3:
                    self.assertRaises(NoWay, hall.change, row)
            for many in (-1, 401, True, None):
                self.assertRaises(NoTurn, hall.ahead, many)
            self.assertEqual(look(hall), told)
            self.assertEqual(steps(hall, 9), steps(replayed(told[-1]), 9))


class TestLog(unittest.TestCase):
    def test_form(self):
        hall = Hall([2, 0])
        steps(hall, 2)
        hall.change([0, 2])
        hall.step()
        self.assertEqual(hall.log(), [
            ("begin", (2, 0)), ("step", 0, 2), ("step", None, 0), ("change", (0, 2)), ("step", 0, 2)])
        for deed in hall.log():
            self.assertIs(type(deed), tuple)
        self.assertIs(type(hall.log()), list)

    def test_replayed_whole_it_is_the_same(self):
        for seed in range(40):
            hall, rows = hall_by_chance(40, seed)
            log = hall.log()
            again = replayed(log)
            self.assertIs(type(again), Hall)
            self.assertEqual(log, hall.log())
            self.assertEqual(look(again), look(hall))
            for each in (again, hall):
                steps(each, 3)
                each.change(rows[1])
                steps(each, 20)
            self.assertEqual(look(again), look(hall))

    def test_cut_anywhere_it_is_the_hall_of_that_time(self):
        source = random.Random(54)
        rows = list(going_rows_of(4, 4, 54))
        hall, told = Hall(rows[0]), []
        for _ in range(60):
            told.append(look(hall))
            if source.random() < 0.3:
                hall.change(source.choice(rows))
            else:
                hall.step()
        for at, before in enumerate(told):
            self.assertEqual(look(replayed(hall.log()[:at + 1])), before)

    def test_one_row_spoilt(self):
        for seed in range(12):
            log = hall_by_chance(25, seed)[0].log()
            for at, row in enumerate(log):
                for spoilt in spoilt_rows(row):
                    with self.subTest(row=row, spoilt=spoilt):
                        refusal = refusal_of(NoLog, replayed, [*log[:at], spoilt, *log[at + 1:]])
                        self.assertEqual(refusal.row, at)

    def test_the_first_spoilt_row_is_told(self):
        log = [("begin", (5, 3, 1)), ("step", 0, 5), ("step", 1, 3), ("change", (3,))]
        for at in range(4):
            self.assertEqual(refusal_of(NoLog, replayed, [*log[:at], 0, None, *log[at:]]).row, at)
            self.assertEqual(refusal_of(NoLog, replayed, [*log[:at], ("step", 9, 9), ("begin", (2, 1))]).row, at)
        self.assertEqual(refusal_of(NoLog, replayed, [*log, ("begin", (5, 3, 1))]).row, 4)
        self.assertEqual(refusal_of(NoLog, replayed, log[1:]).row, 0)
        self.assertEqual(refusal_of(NoLog, replayed, [("begin", (3,)), *log[1:]]).row, 1)
        self.assertEqual(refusal_of(NoLog, replayed, [*log, ("step", 2, 1), ("step", 2, 1)]).row, 5)
        # What is left out changes what comes then: a step of thing 1 where thing 0 is in the hand.
        self.assertEqual(refusal_of(NoLog, replayed, [log[0], *log[2:]]).row, 1)

    def test_changed_rows_that_would_be_refused(self):
        for row in ((2, 1), (2,), (), (10,), (True,), (3.0,), (3,) * 41, ("3",)):
            log = [("begin", (3,)), ("step", 0, 3), ("change", row)]
            self.assertEqual(refusal_of(NoLog, replayed, log).row, 2)
            if row != (2,):
                self.assertEqual(refusal_of(NoLog, replayed, [("begin", row), ("step", 0, 3)]).row, 0)

    def test_truths_and_fractions_are_no_numbers(self):
        for log in ([("begin", (1,)), ("step", False, 1)], [("begin", (1,)), ("step", 0, True)],
                    [("begin", (1,)), ("step", 0.0, 1)], [("begin", (1,)), ("step", 0, 1.0)],
                    [("begin", (0,)), ("step", None, False)], [("begin", (0,)), ("step", None, 0.0)],
                    [("begin", (0,)), ("step", False, 0)], [("begin", (0,)), ("step", 0, 0)],
                    [("begin", (1,)), ("step", None, 1)], [("begin", (0,)), ("step", None, None)]):
            with self.subTest(log=log):
                self.assertEqual(refusal_of(NoLog, replayed, log).row, 1)

    def test_empty_lists_and_what_is_no_list(self):
        log = [("begin", (3,)), ("step", 0, 3)]
        for thing in ([], (), tuple(log), {}, {0: log[0]}, "", "begin", iter(log), log[0], Hall([3]), 5, *NOT_NUMBERS):
            with self.subTest(kind=thing.__class__):
                self.assertEqual(refusal_of(NoLog, replayed, thing).row, 0)
        self.assertRaises(TossError, replayed, [])
        self.assertRaises(ValueError, replayed, ())


def spoilt_rows(row):
    """Rows of a log that can't stand where this one does."""
    yield from (None, 0, "", "step", (), [], [*row], row[:-1], (*row, 0), (*row, None), {}, True, 10 ** 5000)
    yield (row[0].upper(), *row[1:])
    yield ("air", *row[1:])
    yield (None, *row[1:])
    if row[0] == "step":
        _, thing, height = row
        yield ("change", thing, height)
        yield ("begin", thing, height)
        yield ("step", (thing, height))
        for other in (0 if thing is None else None, -1 if thing is None else thing + 1, "0", (thing,), [], 10 ** 5000):
            yield ("step", other, height)
        for other in (height + 1, height - 1, None, str(height), (height,), {}, 10 ** 5000):
            yield ("step", thing, other)
    else:
        word, heights = row
        yield ("step", *row[1:])
        yield ("change" if word == "begin" else "begin", heights)
        for other in (list(heights), heights * 41, (), (*heights, 10), (10,), (-1,), (True,), None, 3, "3",
                      (2, 1), (0, *[1] * 39), (heights,), {}):
            yield (word, other)


class TestNothingIsKept(unittest.TestCase):
    def test_rows_handed_in_may_be_changed_afterwards(self):
        begin, other = [5, 3, 1], [5, 1]
        hall = Hall(begin)
        before = look(hall)
        begin[0] = 9
        begin.append(10)
        self.assertEqual(look(hall), before)
        hall.change(other)
        before = look(hall)
        other.clear()
        self.assertEqual(look(hall), before)
        self.assertEqual(hall.log(), [("begin", (5, 3, 1)), ("change", (5, 1))])

    def test_rows_handed_in_stay_as_they_were(self):
        begin, other = [5, 3, 1], [5, 1]
        hall = Hall(begin)
        hall.change(other)
        steps(hall, 30)
        hall.change(begin)
        self.assertEqual((begin, other), ([5, 3, 1], [5, 1]))

    def test_what_is_told_is_the_askers_own(self):
        hall = Hall([5, 3, 1])
        hall.step()
        hall.change([5, 1])
        before = look(hall)
        for _ in range(2):
            for told in (hall.air(), hall.ahead(3), hall.ahead(400), hall.log()):
                told.append(("step", 0, 5))
                told[0] = 7
                del told[1:2]
            self.assertEqual(look(hall), before)
        told = look(hall)
        steps(hall, 5)
        hall.change([3])
        self.assertEqual(told, before)

    def test_logs_replayed_may_be_changed_afterwards(self):
        log = Hall([5, 3, 1]).log()
        log.append(("step", 0, 5))
        was = list(log)
        hall = replayed(log)
        self.assertEqual(log, was)
        before = look(hall)
        log.append(("step", 9, 9))
        log[0] = None
        self.assertEqual(look(hall), before)
        hall.step()
        self.assertEqual(log, [None, *was[1:], ("step", 9, 9)])

    def test_refused_logs_stay_and_leave_nothing(self):
        log = [("begin", (3,)), ("step", 0, 3), ("change", (2,))]
        for _ in range(2):
            self.assertRaises(NoLog, replayed, log)
            self.assertEqual(log, [("begin", (3,)), ("step", 0, 3), ("change", (2,))])
            self.assertEqual(replayed(log[:2]).turn(), 1)

    def test_a_replayed_hall_and_its_source_go_their_own_ways(self):
        hall = Hall([5, 3, 1])
        hall.step()
        again = replayed(hall.log())
        steps(again, 7)
        self.assertEqual((hall.turn(), len(hall.log())), (1, 2))
        hall.change([3])
        self.assertEqual((again.turn(), len(again.log())), (8, 9))
