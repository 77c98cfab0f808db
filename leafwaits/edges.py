"""Edges: for each scribe of a book the latest hour of a beginning that keeps told highs, None for however late.

Highs are a dictionary from tuples of a round and a scribe to hours: the scribe hands not behind the hour in the round.
All that is true of highs is true of lows, read from the other end of time.
"""

from leafwaits.books import farthest_wait, rows_behind, rules_of
from leafwaits.canon import plain_rows
from leafwaits.ladders import Ladders
from leafwaits.turns import hours_along, turns_of

LATEST_ROUND = 2


class Edges:
    """The edges of a book, for highs of some tuples of a round and a scribe."""

    def __init__(self, book, keys):
        self._names = book.names()
        self._turns = turns_of(rules_of(book))
        self._last = max([many for many, _ in keys], default=0)
        self._farthest = farthest_wait(book, LATEST_ROUND)
        self._known = rows_of_keys(book, keys)

    def tops(self, highs):
        """The greatest edges such that all hours that are not behind them keep all highs, in order."""
        return [_edge_of(row, self._names) for row in self.rows_of_highs(highs)]

    def rows_of_highs(self, highs):
        """The rows of the greatest number by which an hour is behind its high, in the order of their edges.

        Such a row tells at most 0 just if no hour is behind the row's edge.
        """
        lists = self.rows_over(highs)
        ladders = Ladders([entry for some in lists for row in some for entry in row])
        masks = [[ladders.mask(row) for row in some] for some in lists]
        found = [ladders.row(mask) for mask in ladders.ranked(len(masks), masks)]
        return sorted(found, key=lambda row: _place_of(_edge_of(row, self._names)))

    def rows_over(self, bounds):
        """For each bound, an hour of a key, the rows of the number by which the key's hour is behind it."""
        return [moved_rows(self._known[key], -hour) for key, hour in bounds.items()]

    def beginning(self, edge, hours):
        """Hours that are those of an edge and, where it has none, so late that they are behind all others in play.

        So are then all hours of the rounds that have no bound: behind some hours, and behind all that have one.
        """
        far = self._far_from(edge, hours)
        return {name: far if hour is None else hour for name, hour in edge.items()}

    def _far_from(self, edge, hours):
        known = [hour for hour in edge.values() if hour is not None] + hours
        return 1 + max([abs(hour) for hour in known], default=0) + 2 * self._farthest

    def rounds(self, edge):
        """The hours of the rounds from an edge on, up to the last one of some key, None where there is no bound."""
        behind = self._far_from(edge, []) - self._farthest
        every = hours_along(self._turns, self.beginning(edge, []), self._last)
        return [{name: None if hour >= behind else hour for name, hour in hours.items()} for hours in every]


def rows_of_keys(book, keys):
    """For each of some tuples of a round and a scribe the canonical rows of the scribe's hour in the round."""
    found = plain_rows(book.names())
    known = {}
    for many in range(LATEST_ROUND + 1):
        # Rounds of which nobody asks are left out, as their rows can be far too many.
        further = [key for key in keys if key[0] >= many]
        if further and many > 0:
            found = rows_behind(book, found)
        for key in further:
            if key[0] == many:
                known[key] = found[key[1]]
    return known


def moved_rows(some, by):
    """Some rows in which each wait is so much more."""
    return [[(name, wait + by) for name, wait in row] for row in some]


def _edge_of(row, names):
    """The edge at which all entries of a row tell 0."""
    waits = dict(row)
    return {name: -waits[name] if name in waits else None for name in names}


def _place_of(edge):
    """What tells the place of an edge among others: None comes behind all hours."""
    return [(hour is None, 0 if hour is None else hour) for hour in edge.values()]


def hour_at_edge(some, edge):
    """The hour that a rule with some rows tells at an edge, None if it has no bound there."""
    bound = [row for row in some if all([edge[name] is not None for name, _ in row])]
    return min([max([edge[name] + wait for name, wait in row]) for row in bound], default=None)


def is_within(hours, edge):
    """Whether no hour is behind an edge."""
    return all([edge[name] is None or hours[name] <= edge[name] for name in edge])


def turned_hour(hour):
    """The hour, None if there is none, read from the other end of time."""
    return None if hour is None else -hour


def turned_edge(edge):
    """The edge read from the other end of time."""
    return {name: turned_hour(hour) for name, hour in edge.items()}
