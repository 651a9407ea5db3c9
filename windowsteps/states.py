"""States: a system, numbers, and the sum of the prices spent on them."""

from windowsteps.cheapest import cheapest
from windowsteps.errors import NotAdmitted
from windowsteps.figures import shortfall_of
from windowsteps.moves import stepped
from windowsteps.tasks import Task


class State:
    """A system, numbers and a sum spent, which never change; other ones make another state."""

    def __init__(self, system, numbers, spent=0):
        self._system = system
        self._numbers = {name: numbers[name] for name in system.names}
        self._spent = spent

    @property
    def system(self):
        """The system of rules."""
        return self._system

    @property
    def numbers(self):
        """The numbers."""
        return dict(self._numbers)

    @property
    def spent(self):
        """The sum of the prices of all settlements that led here."""
        return self._spent

    def after_rule(self, rule):
        """The state with a further rule."""
        return State(self._system.with_rules(rule), self._numbers, self._spent)

    def after_waiver(self, rule):
        """The state without a rule."""
        return State(self._system.without(rule), self._numbers, self._spent)

    def after_change(self, numbers):
        """The state with other numbers."""
        return State(self._system, numbers, self._spent)

    def after_step(self, step):
        """The state after a step that makes no shortfall above 0 greater."""
        numbers = stepped(self._system, self._numbers, step)
        for rule in self._system.rules:
            if shortfall_of(rule, numbers) > max(0, shortfall_of(rule, self._numbers)):
                raise NotAdmitted(rule)
        return self.after_change(numbers)

    def after_settlement(self, prices):
        """The state with the numbers of any cheapest solution, whose price is spent."""
        price, numbers = cheapest(Task(self._system, self._numbers, prices))
        return State(self._system, numbers, self._spent + price)
