import inspect
import random
import unittest

from tests.samples import PlainHall, going_rows_of
from tests.test_rows import refusal_of
from tossrow import texts
from tossrow.errors import Clash, NoText, TossError
from tossrow.rows import clash, things
from tossrow.states import state_at
from tossrow.texts import answers
from tossrow.ways import way


def refused_row(text):
    return refusal_of(NoText, answers, text).row


def figures(heights):
    return "".join(map(str, heights))


def step_told(done):
    turn, thing, height = done
    return f"{turn}: {'-' if thing is None else thing} {height}"


class TestInterface(unittest.TestCase):
    def test_names_and_arguments(self):
        self.assertEqual(str(inspect.signature(texts.answers)), "(text)")
        self.assertEqual(texts.answers.__module__, "tossrow.texts")
        self.assertEqual(answers(text="begin 3"), ["3 things"])


class TestAnswers(unittest.TestCase):
    def test_begin(self):
        for row, told in (("531", "3 things"), ("0", "0 things"), ("1", "1 things"), ("9", "9 things"),
                          ("20", "1 things"), ("02", "1 things"), ("9" * 40, "9 things"), ("0" * 40, "0 things")):
            with self.subTest(row=row):
                self.assertEqual(answers("begin " + row), [told])

    def test_kinds_of_values(self):
        told = answers("begin 531\nstep\nair")
        self.assertIs(type(told), list)
        self.assertEqual({type(answer) for answer in told}, {str})

    def test_step(self):
        self.assertEqual(answers("begin 20\nstep\nstep 1\nstep 3\nstep"), [
            "1 things", "0: 0 2", "1: - 0", "2: 0 2, 3: - 0, 4: 0 2", "5: - 0"])
        self.assertEqual(answers("begin 0\nstep 2"), ["0 things", "0: - 0, 1: - 0"])
        told = answers("begin 531\nstep 99\nstep 10")
        self.assertEqual(len(told[1].split(", ")), 99)
        self.assertEqual(told[1][:24], "0: 0 5, 1: 1 3, 2: 2 1, ")
        self.assertEqual(told[2][:14], "99: 2 5, 100: ")

    def test_change(self):
        self.assertEqual(answers("begin 3\nchange 51\nahead 5\nstep 3\nchange 3\nahead 4\nchange 3"), [
            "3 things", "4", "45151", "0: 0 4, 1: 1 5, 2: 2 1", "2", "2333", "2"])
        self.assertEqual(answers("begin 531\nchange 441\nchange 531\nahead 3"), ["3 things", "-", "-", "531"])
        self.assertEqual(answers("begin 0\nchange 00"), ["0 things", "-"])
        self.assertEqual(answers("begin 2\nchange 0440\nstep\nchange 2\nahead 3"), [
            "2 things", "33", "0: 0 3", "1", "122"])

    def test_change_refused(self):
        self.assertEqual(answers("begin 3\nchange 2\nchange 21\nchange 332\nchange 0110\nahead 3\nstep"), [
            "3 things", "refused NoWay", "refused Clash 0 1", "refused Clash 1 2", "refused Clash 2 3",
            "333", "0: 0 3"])
        told = answers(f"begin 3\nchange {'3' * 38}43\nchange {'3' * 39}2")
        self.assertEqual(told[1:], ["refused Clash 38 39", "refused Clash 38 39"])

    def test_air(self):
        self.assertEqual(answers("begin 531\nair\nstep\nair"), [
            "3 things", "0 in 0, 1 in 1, 2 in 2", "0: 0 5", "1 in 0, 2 in 1, 0 in 4"])
        self.assertEqual(answers("begin 02\nair\nstep\nair"), ["1 things", "0 in 1", "0: - 0", "0 in 0"])
        self.assertEqual(answers("begin 0\nair\nstep\nair"), ["0 things", "none", "0: - 0", "none"])

    def test_ahead(self):
        self.assertEqual(answers("begin 531\nahead 1\nahead 4\nstep\nahead 2\nahead 99"), [
            "3 things", "5", "5315", "0: 0 5", "31", "315" * 33])

    def test_rows_without_words_and_blanks_about(self):
        plain = ["3 things", "0: 0 5", "1: 1 3, 2: 2 1"]
        for text in ("begin 531\nstep\nstep 2", "begin 531\nstep\nstep 2\n", "\n\nbegin 531\n\n\nstep\n\nstep 2\n\n\n",
                     "   begin 531\n  step\n step 2", "begin 531   \nstep  \nstep 2 ", "begin     531\nstep\nstep   2",
                     "  \n begin   531  \n   \n  step  \n \n  step   2  \n  ", " \n" * 20 + "begin 531\nstep\nstep 2"):
            with self.subTest(text=text):
                self.assertEqual(answers(text), plain)

    def test_by_chance_as_a_plain_going_on(self):
        for seed in range(60):
            source = random.Random(seed)
            rows = list(going_rows_of(4, seed % 10, seed))
            rows.extend(([seed % 10 - 1 if seed % 10 else 4], [2, 1], [4, 4, 3, 1]))
            plain = PlainHall(rows[0])
            text, told = [f"begin {figures(rows[0])}"], [f"{seed % 10} things"]
            for _ in range(40):
                row, answer = command_by_chance(source, plain, rows)
                text.append(" " * source.randint(0, 2) + row.replace(" ", " " * source.randint(1, 3)))
                told.append(answer)
                text.extend([""] * source.randint(0, 1))
            self.assertEqual(answers("\n".join(text)), told)

    def test_asked_again_it_tells_the_same(self):
        text = "begin 531\nstep 4\nchange 51\nair\nahead 9"
        told = answers(text)
        was = list(told)
        again = answers(text)
        again.append("more")
        again[0] = ""
        self.assertEqual(told, was)
        self.assertEqual(answers(text), was)


def command_by_chance(source, plain, rows):
    """A row of a text, and what a plain hall answers to it."""
    word = source.choice(("step", "step N", "change", "change", "air", "ahead"))
    many = source.randint(1, 99) if word == "ahead" else source.randint(1, 12)
    if word == "step":
        return "step", step_told(plain.step())
    if word == "step N":
        return f"step {many}", ", ".join(step_told(plain.step()) for _ in range(many))
    if word == "air":
        return "air", ", ".join(f"{thing} in {turns}" for thing, turns in plain.pairs()) or "none"
    if word == "ahead":
        return f"ahead {many}", figures(plain.ahead(many))
    row = source.choice(rows)
    return f"change {figures(row)}", change_told(plain, row)


def change_told(plain, row):
    if clash(row):
        return "refused Clash {} {}".format(*clash(row))
    if things(row) != plain.state().bit_count():
        return "refused NoWay"
    heights = way(plain.state(), state_at(row))
    plain.change(heights, row)
    return figures(heights) or "-"


class TestRefusals(unittest.TestCase):
    def test_texts_without_words(self):
        for text in ("", "\n", " ", "   ", "\n\n\n", "  \n   \n ", "\n" * 50):
            with self.subTest(text=text):
                self.assertEqual(refused_row(text), 0)

    def test_rows_of_no_such_form(self):
        for row in ("steps", "Step", "STEP", "st ep", "step 0", "step 01", "step 00", "step 100", "step 099",
                    "step 1000000", "step -1", "step +1", "step 1.0", "step x", "step 1 1", "step 1x", "step 1,", "step1",
                    "step -", "step 1_0", "step 0x1", "change", "change x", "change 3 3", "change -", "change -3",
                    "change 3.", "change 3,3", "change a", "change 5a1", "Change 3", "change3", "change 531 step",
                    "change " + "3" * 41, "change " + "3" * 400, "air 1", "air air", "Air", "airs", "air 531",
                    "ahead", "ahead 0", "ahead 00", "ahead 07", "ahead 100", "ahead 400", "ahead -1", "ahead x",
                    "ahead 1 2", "Ahead 1", "ahead9", "log", "log 1", "turn", "state", "531", "3", "?", "#", "-",
                    "# step", "step # one", "step;", "\"step\"", "end"):
            with self.subTest(row=row):
                self.assertEqual(refused_row("begin 531\nstep\n" + row), 3)
                self.assertEqual(refused_row("begin 531\n\n\n" + row + "\nstep\nfoo"), 4)
                self.assertEqual(refused_row(row + "\nbegin 531"), 1)
                self.assertEqual(refused_row("\n \n  " + row + "  \nbegin 531"), 3)

    def test_begins_of_no_such_form(self):
        for row in ("begin", "begin x", "begin 5a1", "begin 3 3", "begin -", "begin -3", "begin 3,3", "Begin 3", "begin3",
                    "begin (3)", "begin [3]", "begin " + "3" * 41, "begin 10 step", "BEGIN 3", "begins 3", "begin 3."):
            with self.subTest(row=row):
                self.assertEqual(refused_row(row), 1)
                self.assertEqual(refused_row("\n\n" + row + "\nbegin 3"), 3)
                self.assertEqual(refused_row("begin 3\n" + row), 2)

    def test_rows_that_stand_where_they_may_not(self):
        for row in ("step", "step 2", "change 531", "air", "ahead 3"):
            for text, at in ((row, 1), ("\n" + row, 2), (row + "\nbegin 531", 1), (" \n\n" + row + "\n\nbegin 531", 3)):
                with self.subTest(text=text):
                    self.assertEqual(refused_row(text), at)
        for text, at in (("begin 3\nbegin 3", 2), ("begin 3\n\nstep\nbegin 3\nbegin 3", 4), ("\nbegin 3\nbegin 51", 3),
                         ("begin 3\nbegin 21", 2), ("begin 3\nchange 3\n  begin   3", 3)):
            with self.subTest(text=text):
                self.assertEqual(refused_row(text), at)

    def test_the_first_wrong_row_is_told(self):
        self.assertEqual(refused_row("begin 3\nfoo\nbegin 3\nbar"), 2)
        self.assertEqual(refused_row("begin 3\nbegin 3\nfoo"), 2)
        self.assertEqual(refused_row("foo\nstep"), 1)
        self.assertEqual(refused_row("begin 3\n" + "step\n" * 98 + "foo\nfoo"), 100)

    def test_clash_of_the_first_row(self):
        for row, pair in (("21", (0, 1)), ("331", (0, 2)), ("4431", (1, 2)), ("666622", (0, 4))):
            for text in ("begin " + row, "\n\n begin  " + row + "\nstep\nchange 3", f"begin {row}\nchange {row}"):
                with self.subTest(text=text):
                    refusal = refusal_of(Clash, answers, text)
                    self.assertEqual((refusal.one, refusal.other), pair)

    def test_no_text_ahead_of_clash(self):
        for text, at in (("begin 21\nfoo", 2), ("begin 21\n\nstep\nbegin 3", 4), ("begin 21\nbegin 21", 2),
                         ("begin 21\nchange 21\nstep 0", 3)):
            with self.subTest(text=text):
                self.assertEqual(refused_row(text), at)

    def test_taken_as_toss_error_and_value_error(self):
        for kind in (TossError, ValueError):
            self.assertRaises(kind, answers, "")
            self.assertRaises(kind, answers, "begin 21")
