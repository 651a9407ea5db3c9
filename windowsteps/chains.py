"""Chains of rules and their totals.

Some functions take arcs: a list of tuples (low, high, gap) as rules are, but with any integers
as gaps. They name an arc by its position in this list.
"""


def is_chain(system, thing):
    """Whether any object is a list of rules of the system, at least one, that is a chain."""
    if not isinstance(thing, list) or not thing:
        return False
    if not all([system.has_rule(rule) for rule in thing]):
        return False
    return all([before[1] == after[0] for before, after in zip(thing, thing[1:])])


def total_of(chain):
    """The sum of the gaps of a chain."""
    return sum([rule[2] for rule in chain])


def greatest_totals(arcs, start):
    """For all that chains from start lead to: the greatest totals, and the last arcs of such chains.

    No ring may have a total above 0.
    """
    totals = {start: 0}
    last = {}
    while _raise_highs(arcs, totals, last):
        pass
    return totals, last


def way_to(arcs, last, end):
    """The positions of the arcs of a chain, from its end and the last arcs that lead to each thing."""
    way = []
    while end in last:
        way.append(last[end])
        end = arcs[last[end]][0]
    return way[::-1]


def rising_ring(things, arcs):
    """The positions of the arcs of a ring with a total above 0, or None."""
    _, last, raised = _raised_from_0(things, arcs)
    if not raised:
        return None
    # What was raised in as many rounds as there are things has a ring among the arcs that raised it.
    thing = raised[0]
    for _ in things:
        thing = arcs[last[thing]][0]
    return _ring_to(arcs, last, thing)


def heights(things, arcs):
    """A number for each thing, 0 for the ground, such that all arcs hold as rules do.

    No ring may have a total above 0.
    """
    totals, _, _ = _raised_from_0(things, arcs)
    return {thing: totals[thing] - totals[None] for thing in things}


def _raised_from_0(things, arcs):
    """Totals raised from 0 as arcs ask, the last arcs that did so, and what the last possible round raised."""
    totals = {thing: 0 for thing in things}
    last = {}
    raised = list(things)
    rounds = 0
    while raised and rounds < len(things):
        raised = _raise_highs(arcs, totals, last)
        rounds += 1
    return totals, last, raised


def _ring_to(arcs, last, thing):
    ring = [last[thing]]
    while arcs[ring[-1]][0] != thing:
        ring.append(last[arcs[ring[-1]][0]])
    return ring[::-1]


def _raise_highs(arcs, totals, last):
    """Raise totals that an arc asks to be greater, in one round over all arcs; return what was raised."""
    raised = []
    for at, (low, high, gap) in enumerate(arcs):
        if low in totals and (high not in totals or totals[low] + gap > totals[high]):
            totals[high] = totals[low] + gap
            last[high] = at
            raised.append(high)
    return raised
