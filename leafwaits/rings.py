"""Who hangs on whom: rings, and the order in which scribes hand in a round.

All functions take a dictionary from each name to the list of the names on which its rule hangs.
"""


def shortest_ring(hung):
    """A shortest list of names of which each hangs on the next one and the last one on the first one.

    Of these lists the first one as Python orders them; None if there is none.
    """
    best = None
    for name in sorted(hung):
        ring = _ring_from(name, hung)
        if ring is not None and (best is None or len(ring) < len(best)):
            best = ring
    return best


def _ring_from(begin, hung):
    """The first one of the shortest rings that begin with a name, None if there is none."""
    away = _steps_to(begin, hung)
    ring = []
    name = begin
    while name != begin or not ring:
        ring.append(name)
        ways = [(away[following], following) for following in hung[name] if following in away]
        if not ways:
            return None
        name = min(ways)[1]
    return ring


def _steps_to(goal, hung):
    """The least number of steps, from a name to one on which it hangs, that lead to a name, wherever some do."""
    away = {goal: 0}
    edge = [goal]
    while edge:
        edge = [name for name in hung if name not in away and any([other in edge for other in hung[name]])]
        steps = max(list(away.values())) + 1
        for name in edge:
            away[name] = steps
    return away


def hanging_order(hung):
    """The names in an order in which each comes behind all those on which it hangs; there is no ring."""
    order = []
    for _ in range(len(hung)):
        for name in hung:
            if name not in order and all([other in order for other in hung[name]]):
                order.append(name)
    return order
