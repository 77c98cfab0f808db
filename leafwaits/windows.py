"""Windows: from which beginnings scribes hand their leaves within told hours in told rounds, all of them at once."""

from leafwaits.books import need_book, turned_about
from leafwaits.checks import is_windows, need_hours, need_one_of
from leafwaits.edges import LATEST_ROUND, Edges, is_within, turned_edge, turned_hour
from leafwaits.errors import InvalidWindows
from leafwaits.gaps import widest_gap
from leafwaits.rounds import run


def _need_windows(book, value):
    """Raises InvalidWindows unless an object is windows of a book."""
    if not is_windows(value):
        raise InvalidWindows(value)
    if not all([many <= LATEST_ROUND and name in book.names() for many, name in value]):
        raise InvalidWindows(value)


def _lows_of(windows):
    return {key: span[0] for key, span in windows.items() if span[0] is not None}


def _highs_of(windows):
    return {key: span[1] for key, span in windows.items() if span[1] is not None}


def _turned(windows):
    """The windows read from the other end of time."""
    return {key: (turned_hour(high), turned_hour(low)) for key, (low, high) in windows.items()}


def keeps(book, windows, hours):
    """Whether a beginning keeps windows."""
    return first_broken(book, windows, hours) is None


def first_broken(book, windows, hours):
    """The least key whose window a beginning does not keep, None if it keeps them all."""
    need_book(book)
    _need_windows(book, windows)
    need_hours(hours, book.names())
    every = run(book, hours, LATEST_ROUND)
    for many, name in sorted(windows):
        low, high = windows[(many, name)]
        hour = every[many][name]
        if (low is not None and hour < low) or (high is not None and hour > high):
            return (many, name)
    return None


def ends(book, windows):
    """The list of the greatest edges such that all hours that are not behind them keep all highs."""
    need_book(book)
    _need_windows(book, windows)
    highs = _highs_of(windows)
    return Edges(book, list(highs)).tops(highs)


def begins(book, windows):
    """The list of the least edges such that all hours that are not ahead of them keep all lows."""
    need_book(book)
    _need_windows(book, windows)
    turned = ends(turned_about(book), _turned(windows))
    return [turned_edge(edge) for edge in turned[::-1]]


def boxes(book, windows):
    """The list of all tuples of a begin and an end such that no hour of the begin is behind that of the end."""
    lows = begins(book, windows)
    highs = ends(book, windows)
    return [(dict(low), dict(high)) for low in lows for high in highs if _is_box(low, high)]


def _is_box(low, high):
    return all([low[name] is None or high[name] is None or low[name] <= high[name] for name in low])


def _lows_broken_in(windows, rounds):
    """The ascending list of the keys whose lows are not kept in rounds, where None is as late as one likes."""
    broken = []
    for (many, name), low in sorted(_lows_of(windows).items()):
        hour = rounds[many][name]
        if hour is not None and hour < low:
            broken.append((many, name))
    return broken


def _good_ends(edges, windows):
    """The ends from which on all windows are kept, None as late as one likes, each with the hours of its rounds."""
    every = [(edge, edges.rounds(edge)) for edge in edges.tops(_highs_of(windows))]
    return [(edge, rounds) for edge, rounds in every if not _lows_broken_in(windows, rounds)]


def _hours_of(windows):
    return [hour for span in windows.values() for hour in span if hour is not None]


def some_hours(book, windows):
    """Any hours that keep windows, None if there are none."""
    need_book(book)
    _need_windows(book, windows)
    edges = Edges(book, list(windows))
    found = _good_ends(edges, windows)
    return edges.beginning(found[0][0], _hours_of(windows)) if found else None


def why_none(book, windows):
    """For each end the round and the scribe whose low is not kept from it on, None if some hours keep the windows."""
    need_book(book)
    _need_windows(book, windows)
    edges = Edges(book, list(windows))
    found = []
    for edge in edges.tops(_highs_of(windows)):
        broken = _lows_broken_in(windows, edges.rounds(edge))
        if not broken:
            return None
        many, name = broken[0]
        found.append((edge, many, name))
    return found


def room(book, windows, hours, name):
    """The earliest and the latest hour that a scribe may begin with, the others as told, None if there is no hour."""
    need_book(book)
    _need_windows(book, windows)
    need_hours(hours, book.names())
    need_one_of(name, book.names())
    latest = _latest_hours(book, windows, hours, name)
    turned = _latest_hours(turned_about(book), _turned(windows), turned_edge(hours), name)
    if not latest or not turned:
        return None
    least = None if None in turned else -max(turned)
    return _span_or_none(least, None if None in latest else max(latest))


def _span_or_none(least, most):
    """The tuple of a least and a greatest number, each None if there is none; None if the least is above the other."""
    if least is not None and most is not None and least > most:
        return None
    return (least, most)


def _latest_hours(book, windows, hours, name):
    """For each end that leaves room for what the other scribes begin with the hour that it tells for a scribe."""
    others = [other for other in book.names() if other != name]
    return [edge[name] for edge in ends(book, windows) if is_within(hours, {other: edge[other] for other in others})]


def common_room(book, windows, hours):
    """The least and the greatest number by which all hours may be later so that windows are kept; None if none is."""
    need_book(book)
    _need_windows(book, windows)
    need_hours(hours, book.names())
    every = run(book, hours, LATEST_ROUND)
    least = max([low - every[many][name] for (many, name), low in _lows_of(windows).items()], default=None)
    most = min([high - every[many][name] for (many, name), high in _highs_of(windows).items()], default=None)
    return _span_or_none(least, most)


def tightest(book, windows):
    """The narrowest windows with the same keys that the same beginnings keep, None if no beginning keeps them."""
    need_book(book)
    _need_windows(book, windows)
    latest = _latest_of_keys(book, windows)
    if latest is None:
        return None
    turned = _latest_of_keys(turned_about(book), _turned(windows))
    return {key: (turned_hour(turned[key]), latest[key]) for key in sorted(windows)}


def _latest_of_keys(book, windows):
    """For each key the greatest hour over all beginnings that keep windows, None for no bound; None if none keeps."""
    edges = Edges(book, list(windows))
    every = [rounds for _, rounds in _good_ends(edges, windows)]
    if not every:
        return None
    latest = {}
    for many, name in windows:
        told = [rounds[many][name] for rounds in every]
        latest[(many, name)] = None if None in told else max(told)
    return latest


def same_windows(book, one, other):
    """Any hours that keep just one of two windows, None if the same beginnings keep both."""
    need_book(book)
    _need_windows(book, one)
    _need_windows(book, other)
    hours = _hours_beyond(book, one, other)
    if hours is not None:
        return hours
    turned = _hours_beyond(turned_about(book), _turned(one), _turned(other))
    return None if turned is None else turned_edge(turned)


def _hours_beyond(book, one, other):
    """Any hours that keep one of two windows, and do not keep all highs of the other one, None if there are none."""
    edges = Edges(book, list(one) + list(other))
    for windows, others in [(one, other), (other, one)]:
        for edge, rounds in _good_ends(edges, windows):
            if _is_some_high_broken_in(others, rounds):
                return edges.beginning(edge, _hours_of(one) + _hours_of(other))
    return None


def _is_some_high_broken_in(windows, rounds):
    """Whether some high is not kept in rounds, where None is as late as one likes."""
    told = [(rounds[many][name], high) for (many, name), high in _highs_of(windows).items()]
    return any([hour is None or hour > high for hour, high in told])


def widening(book, windows):
    """The least number by which lows less and highs more would let some beginning keep windows, None if none is."""
    need_book(book)
    _need_windows(book, windows)
    edges = Edges(book, list(windows))
    # What the least of all hours less their lows tells, and what the greatest of all hours less their highs tells.
    over_lows = [row for some in edges.rows_over(_lows_of(windows)) for row in some]
    apart = widest_gap(over_lows, edges.rows_of_highs(_highs_of(windows)))
    return None if apart is None else -(apart // 2)
