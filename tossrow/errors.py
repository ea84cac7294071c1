"""All refusals of the program."""


class TossError(ValueError):
    """Any refusal."""


class NoRow(TossError):
    """What should be a row is none."""


class Clash(TossError):
    """A row doesn't go on: its turns one and other are the first that clash."""

    def __init__(self, one, other):
        super().__init__(f"turns {one} and {other} clash")
        self.one = one
        self.other = other


class NoState(TossError):
    """What should be a state is none."""


class NoThrow(TossError):
    """A height can't be thrown here."""


class NoTurn(TossError):
    """What should be a turn, or a number of turns, is none."""


class NoWay(TossError):
    """No throws lead there, as there are not as many things."""


class NoLog(TossError):
    """The row with this number, from 0, isn't what comes then in a log."""

    def __init__(self, row):
        super().__init__(f"row {row} of the log can't come there")
        self.row = row


class NoText(TossError):
    """The row with this number, from 1, can't stand there in a text."""

    def __init__(self, row):
        super().__init__(f"row {row} of the text can't stand there")
        self.row = row
