"""Histories: a system and numbers that change, with all earlier states."""

from windowsteps.errors import NothingToUndo
from windowsteps.figures import check_numbers, shortfall_of
from windowsteps.states import State


class History:
    """A system and numbers, with the states before each change."""

    def __init__(self, system, numbers):
        check_numbers(system, numbers)
        self._state = State(system, numbers)
        self._earlier = []

    @property
    def system(self):
        """The system of rules."""
        return self._state.system

    @property
    def numbers(self):
        """The numbers."""
        return self._state.numbers

    @property
    def breaches(self):
        """The ascending list of the rules that do not hold."""
        numbers = self._state.numbers
        return [rule for rule in self._state.system.rules if shortfall_of(rule, numbers) > 0]

    @property
    def spent(self):
        """The sum of the prices of all settlements that were not undone."""
        return self._state.spent

    def __len__(self):
        return len(self._earlier)

    def step(self, step):
        """Do a step that makes no shortfall above 0 greater."""
        self._enter(self._state.after_step(step))

    def demand(self, rule):
        """Add a rule, also if it does not hold."""
        self._enter(self._state.after_rule(rule))

    def waive(self, rule):
        """Take a rule away."""
        self._enter(self._state.after_waiver(rule))

    def settle(self, prices):
        """Change the numbers to any cheapest solution and return its price."""
        spent = self._state.spent
        self._enter(self._state.after_settlement(prices))
        return self._state.spent - spent

    def undo(self):
        """Restore the state before the last change."""
        if not self._earlier:
            raise NothingToUndo("there is no earlier state")
        self._state = self._earlier.pop()

    def copy(self):
        """An independent history in the same state."""
        history = History(self._state.system, self._state.numbers)
        history._state = self._state
        history._earlier = list(self._earlier)
        return history

    def _enter(self, state):
        self._earlier.append(self._state)
        self._state = state
