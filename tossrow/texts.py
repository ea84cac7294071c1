"""Texts of commands to a hall, and the answers to them."""

from tossrow.errors import Clash, NoText, NoWay
from tossrow.halls import Hall
from tossrow.rows import MOST_HEIGHTS, things
from tossrow.ways import way_onto

FIGURES = "0123456789"
MOST_FIGURES_OF_NUMBER = 2


def answers(text):
    """The answers to all commands of a text."""
    commands = _commands(text)
    begin = commands[0]
    row = begin[1]
    hall = Hall(row)
    told = [f"{things(row)} things"]
    for word, given in commands[1:]:
        told.append(_answer(hall, word, given))
    return told


def _commands(text):
    """The pairs of a word and what it is given, of all rows with words."""
    commands = []
    for number, line in enumerate(text.splitlines(), start=1):
        words = line.split()
        if words:
            command = _command(words)
            if command is None or _begins(command) != (len(commands) == 0):
                raise NoText(number)
            commands.append(command)
    if not commands:
        raise NoText(0)
    return commands


def _begins(command):
    return command[0] == "begin"


def _command(words):
    """The pair of a word and what it is given, None where the words are no command."""
    word = words[0]
    if len(words) == 1:
        return _bare_command(word)
    if len(words) > 2:
        return None
    given = words[1]
    if word in ("begin", "change") and _is_row(given):
        return (word, [int(figure) for figure in given])
    if word in ("step", "ahead") and _is_number(given):
        return (word, int(given))
    return None


def _bare_command(word):
    if word == "step":
        return (word, 1)
    if word == "air":
        return (word, None)
    return None


def _is_row(word):
    return len(word) <= MOST_HEIGHTS and _is_of_figures(word)


def _is_number(word):
    return len(word) <= MOST_FIGURES_OF_NUMBER and _is_of_figures(word) and word[0] != "0"


def _is_of_figures(word):
    return all([sign in FIGURES for sign in word])


def _answer(hall, word, given):
    if word == "step":
        return ", ".join([_one_step(hall) for _ in range(given)])
    if word == "change":
        return _change(hall, given)
    if word == "air":
        return _air(hall)
    return _figures(hall.ahead(given))


def _one_step(hall):
    turn, thing, height = hall.step()
    if thing is None:
        return f"{turn}: - {height}"
    return f"{turn}: {thing} {height}"


def _change(hall, row):
    try:
        heights = way_onto(hall.state(), row)
    except NoWay:
        return "refused NoWay"
    except Clash as refusal:
        return f"refused Clash {refusal.one} {refusal.other}"
    hall.change(row)
    if not heights:
        return "-"
    return _figures(heights)


def _air(hall):
    pairs = [f"{thing} in {turns}" for thing, turns in hall.air()]
    if not pairs:
        return "none"
    return ", ".join(pairs)


def _figures(heights):
    return "".join([str(height) for height in heights])
