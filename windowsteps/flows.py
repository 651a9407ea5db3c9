"""The flow of amounts over the rules of a task that no numbers can undercut.

A solution costs at least the sum of amounts times shortfalls, if the amounts that push a setting
upwards exceed those that push it downwards by no more than its price of raising, and the other way
round by no more than its price of lowering. The greatest such sum is the least price.
"""

from windowsteps.chains import greatest_totals, heights, way_to
from windowsteps.figures import shortfall_of

# Amounts never come near to it, as prices are below 1000 and settings few.
UNLIMITED = 1000000000
BITS_OF_PRICES = 10


class Network:
    """Arcs with room for amounts, such that no ring of arcs with room has a total above 0."""

    def __init__(self):
        self._arcs = []
        self._room = []

    def add_both_ways(self, arc, room, room_back):
        """Add an arc, and the same one in the other direction behind it; return the first position."""
        low, high, gap = arc
        self._arcs.extend([arc, (high, low, -gap)])
        self._room.extend([room, room_back])
        return len(self._arcs) - 2

    def amounts(self, many):
        """The amounts of the first arcs that were added, if they were without room back."""
        return [self._room[2 * place + 1] for place in range(many)]

    def levels(self, names):
        """Numbers that satisfy all arcs with room, which makes their price the total of the amounts."""
        # All things start level with the ground and are raised no further than the arcs demand, so
        # that these numbers leave the range only where all cheapest ones do.
        found = heights([None, *names], [self._arcs[at] for at in self._open_positions()])
        return {name: found[name] for name in names}

    def double(self):
        """Double all room and, as it is room in the other direction, all amounts."""
        self._room = [2 * room for room in self._room]

    def widen(self, at):
        """Add one to the room of an arc, and use it up if a ring with a total above 0 needs it."""
        ring = [] if self._room[at] > 0 else self._rising_ring_through(at)
        self._room[at] += 1
        for used in ring:
            self._room[used] -= 1
            self._room[used ^ 1] += 1

    def _rising_ring_through(self, at):
        low, high, gap = self._arcs[at]
        positions = self._open_positions()
        arcs = [self._arcs[each] for each in positions]
        totals, last = greatest_totals(arcs, high)
        if low not in totals or totals[low] + gap <= 0:
            return []
        return [at, *[positions[each] for each in way_to(arcs, last, low)]]

    def _open_positions(self):
        return [at for at in range(len(self._arcs)) if self._room[at] > 0]


def total_of_amounts(task, amounts):
    """The sum of each amount times the shortfall of its rule for the old numbers."""
    old = task.numbers
    return sum([amount * shortfall_of(rule, old) for amount, rule in zip(amounts, task.system.rules)])


def full_network(task, bounds=()):
    """The network of a task that has a solution, with the amounts of the greatest total.

    Bounds are further arcs, behind those of the rules, that the numbers must satisfy; a solution must do so.
    """
    network = Network()
    for arc in [*task.system.rules, *bounds]:
        network.add_both_ways(arc, UNLIMITED, 0)
    prices = _add_settings(network, task)
    # The prices are put in bit by bit: each bit doubles what is there and adds at most one to it,
    # so that the number of searches does not depend on the prices.
    for bit in reversed(range(BITS_OF_PRICES)):
        network.double()
        for at in prices:
            if prices[at] >> bit & 1:
                network.widen(at)
    return network


def _add_settings(network, task):
    """Add an arc to the ground for each setting; return the prices that are still to become their room."""
    prices = {}
    for name, number in task.numbers.items():
        arc = (name, None, -number)
        if task.prices.is_fixed(name):
            network.add_both_ways(arc, UNLIMITED, UNLIMITED)
        else:
            at = network.add_both_ways(arc, 0, 0)
            prices[at], prices[at + 1] = task.prices.pair_of(name)
    return prices
