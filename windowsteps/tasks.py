"""Prices of changes, and tasks: to find admitted numbers near old ones."""

from windowsteps.errors import InvalidPrices
from windowsteps.figures import breach_of, check_numbers
from windowsteps.kinds import is_integer_within, is_name

GREATEST_PRICE = 999


class Prices:
    """Prices that never change; other prices make another object."""

    def __init__(self, *, raising=1, lowering=1):
        if not _is_price(raising) or not _is_price(lowering):
            raise InvalidPrices("a price must be an integer from 1 to 999")
        self._raising = raising
        self._lowering = lowering
        self._single = {}

    @property
    def raising(self):
        """The price of raising a setting by one."""
        return self._raising

    @property
    def lowering(self):
        """The price of lowering a setting by one."""
        return self._lowering

    @property
    def single(self):
        """The settings with prices of their own; None for fixed."""
        return dict(self._single)

    def with_price(self, name, price):
        """The prices in which a setting has a price of its own, or is fixed if the price is None."""
        if not is_name(name):
            raise InvalidPrices("a price of its own needs the name of a setting")
        if price is not None and not _is_price(price):
            raise InvalidPrices("a price of its own must be None or an integer from 1 to 999")
        single = {**self._single, name: price}
        prices = Prices(raising=self._raising, lowering=self._lowering)
        prices._single = {other: single[other] for other in sorted(single)}
        return prices

    def is_fixed(self, name):
        """Whether a setting must keep its number."""
        return name in self._single and self._single[name] is None

    def pair_of(self, name):
        """The prices of raising and of lowering a setting that is not fixed."""
        if name in self._single:
            return self._single[name], self._single[name]
        return self._raising, self._lowering


class Task:
    """A system, old numbers and prices, which never change."""

    def __init__(self, system, numbers, prices):
        check_numbers(system, numbers)
        self._system = system
        self._numbers = {name: numbers[name] for name in system.names}
        self._prices = prices

    @property
    def system(self):
        """The system of rules."""
        return self._system

    @property
    def numbers(self):
        """The old numbers."""
        return dict(self._numbers)

    @property
    def prices(self):
        """The prices."""
        return self._prices

    def anchors(self):
        """The ground and the fixed settings: all that no solution moves."""
        return [None, *[name for name in self._numbers if self._prices.is_fixed(name)]]


def price_of(task, numbers):
    """The price of numbers, or None if a fixed setting is changed."""
    check_numbers(task.system, numbers)
    old = task.numbers
    if any([numbers[name] != old[name] for name in old if task.prices.is_fixed(name)]):
        return None
    return sum([_price_of_change(task.prices, name, numbers[name] - old[name]) for name in old])


def is_solution(task, numbers):
    """Whether numbers are admitted, with all fixed settings at their old numbers."""
    return price_of(task, numbers) is not None and breach_of(task.system, numbers) is None


def _price_of_change(prices, name, change):
    if change == 0:
        return 0
    raising, lowering = prices.pair_of(name)
    return change * raising if change > 0 else -change * lowering


def _is_price(thing):
    return is_integer_within(thing, 1, GREATEST_PRICE)
