"""The errors of the program, one class for each kind of failure."""


class WindowError(ValueError):
    """The base of all errors."""


class ParseError(WindowError):
    """A text that is not the text of a system; `line` is the index of its first wrong line."""

    def __init__(self, line):
        super().__init__(f"not the text of a system, as line {line} shows")
        self.line = line


class NotAdmitted(WindowError):
    """Numbers for which a rule does not hold; `rule` is this rule."""

    def __init__(self, rule):
        super().__init__(f"a rule does not hold: {rule!r}")
        self.rule = rule


class InvalidSystem(WindowError):
    """Not the names or the rules of a system."""


class UnknownRule(WindowError):
    """Not a rule of the system."""


class UnknownSetting(WindowError):
    """Not a setting of the system."""


class InvalidNumbers(WindowError):
    """Not numbers for the settings of the system."""


class Contradiction(WindowError):
    """Rules that cannot all hold."""


class InvalidStep(WindowError):
    """Not a step of a block of the system."""


class InvalidPrices(WindowError):
    """Not a price, or not the name of what it is for."""


class NoSolution(WindowError):
    """A task without a solution."""


class InvalidAmounts(WindowError):
    """Not amounts for the rules of the task."""


class NotASolution(WindowError):
    """Numbers that are not a solution of the task."""


class PlanFinished(WindowError):
    """A plan without a further step."""


class NothingToUndo(WindowError):
    """Nothing that could be taken back."""


class InvalidName(WindowError):
    """Not a name."""


class DuplicateName(WindowError):
    """A name that is taken."""


class UnknownName(WindowError):
    """Not the name of a system on the board."""


class UnknownMark(WindowError):
    """Not the label of a mark on the board."""


class InvalidCommand(WindowError):
    """Not a command of the board."""


class InvalidLine(WindowError):
    """Not a line of the shell."""
