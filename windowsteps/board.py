"""Boards: systems with numbers, by name."""

from windowsteps.entries import Entry
from windowsteps.errors import DuplicateName, InvalidCommand, InvalidName, UnknownMark, UnknownName, WindowError
from windowsteps.kinds import is_name
from windowsteps.sequences import least_steps
from windowsteps.states import State
from windowsteps.tasks import Prices
from windowsteps.texts import parse_system


class Board:
    """Systems with numbers and sums spent by name, marks to restore them, and a log of all commands."""

    def __init__(self):
        self._states = {}
        self._marks = {}
        self._log = []

    @property
    def names(self):
        """The ascending list of the names."""
        return sorted(self._states)

    @property
    def log(self):
        """The list of the entries of all commands."""
        return list(self._log)

    def create(self, name, text):
        """Add the system with a text, with the number 0 for each setting."""
        with Entry(self._log, "create"):
            _check_new(self._states, name)
            system = parse_system(text)
            self._states[name] = State(system, {setting: 0 for setting in system.names})

    def require(self, name, rule):
        """Add a rule."""
        with Entry(self._log, "require"):
            self._states[name] = self._state_of(name).after_rule(rule)

    def free(self, name, rule):
        """Take a rule away."""
        with Entry(self._log, "free"):
            self._states[name] = self._state_of(name).after_waiver(rule)

    def move(self, name, block, change):
        """Do a step that makes no shortfall above 0 greater."""
        with Entry(self._log, "move"):
            self._states[name] = self._state_of(name).after_step((block, change))

    def lead(self, name, numbers):
        """Lead the numbers to other admitted ones by sequence; return the number of steps."""
        with Entry(self._log, "lead"):
            state = self._state_of(name)
            steps = least_steps(state.system, state.numbers, numbers)
            self._states[name] = state.after_change(numbers)
            return steps

    def settle(self, name, *, raising=1, lowering=1):
        """Change the numbers to any cheapest solution and return its price."""
        with Entry(self._log, "settle"):
            state = self._state_of(name)
            settled = state.after_settlement(Prices(raising=raising, lowering=lowering))
            self._states[name] = settled
            return settled.spent - state.spent

    def drop(self, name):
        """Remove a system with its numbers."""
        with Entry(self._log, "drop"):
            self._state_of(name)
            del self._states[name]

    def mark(self, label):
        """Record all systems, numbers and sums spent."""
        with Entry(self._log, "mark"):
            _check_new(self._marks, label)
            self._marks[label] = dict(self._states)

    def back(self, label):
        """Restore what a mark recorded."""
        with Entry(self._log, "back"):
            if not _is_taken(self._marks, label):
                raise UnknownMark("this is not the label of a mark")
            self._states = dict(self._marks[label])

    def batch(self, commands):
        """Execute commands in order and return the list of their results, or do nothing if one fails."""
        with Entry(self._log, "batch"):
            states, marks = dict(self._states), dict(self._marks)
            try:
                return self._results(commands)
            except WindowError:
                self._states, self._marks = states, marks
                raise

    def system_of(self, name):
        """The system with a name."""
        return self._state_of(name).system

    def numbers_of(self, name):
        """The numbers of the system with a name."""
        return self._state_of(name).numbers

    def spent_on(self, name):
        """The sum of the prices of all settlements of the system with a name."""
        return self._state_of(name).spent

    def copy(self):
        """An independent board with the same systems, numbers, sums spent and marks, and an empty log."""
        board = Board()
        board._states = dict(self._states)
        board._marks = dict(self._marks)
        return board

    def _state_of(self, name):
        if not _is_taken(self._states, name):
            raise UnknownName("there is no system with this name")
        return self._states[name]

    def _results(self, commands):
        if not isinstance(commands, list):
            raise InvalidCommand("a batch must be a list of commands")
        results = []
        for command in commands:
            if not isinstance(command, tuple):
                raise InvalidCommand("a command of a batch must be a tuple")
            results.append(self._result(command))
        return results

    def _result(self, command):
        match command:
            case ("create", name, text):
                return self.create(name, text)
            case ("require", name, rule):
                return self.require(name, rule)
            case ("free", name, rule):
                return self.free(name, rule)
            case ("move", name, block, change):
                return self.move(name, block, change)
            case ("lead", name, numbers):
                return self.lead(name, numbers)
            case ("settle", name):
                return self.settle(name)
            case ("drop", name):
                return self.drop(name)
            case ("mark", label):
                return self.mark(label)
            case ("back", label):
                return self.back(label)
            case _:
                raise InvalidCommand("a command of a batch must have a name and as many arguments as it takes")


def _is_taken(taken, thing):
    return is_name(thing) and thing in taken


def _check_new(taken, name):
    if not is_name(name):
        raise InvalidName("a name must have one to eight letters from a to z")
    if name in taken:
        raise DuplicateName("this name is taken")
