"""Edges: for each scribe of a book the latest hour of a beginning that keeps told highs, None for however late.

Highs are a dictionary from tuples of a round and a scribe to hours: the scribe hands not behind the hour in the round.
All that is true of highs is true of lows, read from the other end of time.
"""

from leafwaits.books import farthest_wait, rows_behind
from leafwaits.canon import plain_rows
from leafwaits.ladders import Ladders

LATEST_ROUND = 2


def rows_of_keys(book, keys):
    """For each of some tuples of a round and a scribe the canonical rows of the scribe's hour in the round."""
    found = plain_rows(book.names())
    known = {}
    for many in range(LATEST_ROUND + 1):
        # Rounds of which nobody asks are left out, as their rows can be far too many.
        further = [key for key in keys if key[0] >= many]
        if further and many > 0:
            found = rows_behind(book, found)
        for key in further:
            if key[0] == many:
                known[key] = found[key[1]]
    return known


def moved_rows(some, by):
    """Some rows in which each wait is so much more."""
    return [[(name, wait + by) for name, wait in row] for row in some]


def tops_of(book, highs):
    """The greatest edges such that all hours that are not behind them keep all highs, in order."""
    return [_edge_of(row, book.names()) for row in rows_of_highs(book, highs)]


def rows_of_highs(book, highs):
    """The rows of the greatest number by which an hour is behind its high, in the order of their edges.

    Such a row tells at most 0 just if no hour is behind the row's edge.
    """
    known = rows_of_keys(book, list(highs))
    lists = [moved_rows(known[key], -high) for key, high in highs.items()]
    ladders = Ladders([entry for some in lists for row in some for entry in row])
    masks = [[ladders.mask(row) for row in some] for some in lists]
    found = [ladders.row(mask) for mask in ladders.ranked(len(masks), masks)]
    return sorted(found, key=lambda row: _place_of(_edge_of(row, book.names())))


def _edge_of(row, names):
    """The edge at which all entries of a row tell 0."""
    waits = dict(row)
    return {name: -waits[name] if name in waits else None for name in names}


def _place_of(edge):
    """What tells the place of an edge among others: None comes behind all hours."""
    return [(hour is None, 0 if hour is None else hour) for hour in edge.values()]


def hour_at_edge(some, edge):
    """The hour that a rule with some rows tells at an edge, None if it has no bound there."""
    bound = [row for row in some if all([edge[name] is not None for name, _ in row])]
    return min([max([edge[name] + wait for name, wait in row]) for row in bound], default=None)


def is_beyond(hour, high):
    """Whether an hour, None if it has no bound, is behind another one."""
    return hour is None or hour > high


def is_within(hours, edge):
    """Whether no hour is behind an edge."""
    return all([edge[name] is None or hours[name] <= edge[name] for name in edge])


def beginning_at(book, edge, hours):
    """Hours of a book that are those of an edge and, where it has none, so late that it makes no difference.

    None of the hours that are looked at beside it may be behind one of those passed, or ahead of one of other sign.
    """
    far = 1 + sum([abs(hour) for hour in hours]) + farthest_wait(book, LATEST_ROUND)
    return {name: far if hour is None else hour for name, hour in edge.items()}


def turned_hour(hour):
    """The hour, None if there is none, read from the other end of time."""
    return None if hour is None else -hour


def turned_edge(edge):
    """The edge read from the other end of time."""
    return {name: turned_hour(hour) for name, hour in edge.items()}
