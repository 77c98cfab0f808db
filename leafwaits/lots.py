"""Lots of things: the least ones that are enough for something."""

from itertools import combinations


def least_lots(things, is_enough):
    """All least lots of some things that are enough, as a function tells of each: shorter ones first, then in order.

    Whatever has a lot that is enough within it is enough, too. The things are rising, and so are those of each lot.
    """
    found = []
    for size in range(len(things) + 1):
        for lot in combinations(things, size):
            known = any([all([thing in lot for thing in less]) for less in found])
            if not known and is_enough(lot):
                found.append(list(lot))
    return found
