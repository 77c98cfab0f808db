"""Windows: from which beginnings scribes hand their leaves within told hours in told rounds, all of them at once."""

from leafwaits.books import need_book, turned_about
from leafwaits.checks import is_windows, need_hours, need_one_of
from leafwaits.edges import LATEST_ROUND, beginning_at, hour_at_edge, is_beyond, is_within, moved_rows, rows_of_highs
from leafwaits.edges import rows_of_keys, tops_of, turned_edge, turned_hour
from leafwaits.errors import InvalidWindows
from leafwaits.gaps import widest_gap
from leafwaits.rounds import run


def _need_windows(book, value):
    """Raises InvalidWindows unless an object is windows of a book."""
    if not is_windows(value):
        raise InvalidWindows(value)
    if not all([many <= LATEST_ROUND and name in book.names() for many, name in value]):
        raise InvalidWindows(value)


def _lows_of(windows):
    return {key: span[0] for key, span in windows.items() if span[0] is not None}


def _highs_of(windows):
    return {key: span[1] for key, span in windows.items() if span[1] is not None}


def _turned(windows):
    """The windows read from the other end of time."""
    return {key: (turned_hour(high), turned_hour(low)) for key, (low, high) in windows.items()}


def keeps(book, windows, hours):
    """Whether a beginning keeps windows."""
    return first_broken(book, windows, hours) is None


def first_broken(book, windows, hours):
    """The least key whose window a beginning does not keep, None if it keeps them all."""
    need_book(book)
    _need_windows(book, windows)
    need_hours(hours, book.names())
    every = run(book, hours, LATEST_ROUND)
    for many, name in sorted(windows):
        low, high = windows[(many, name)]
        hour = every[many][name]
        if (low is not None and hour < low) or (high is not None and hour > high):
            return (many, name)
    return None


def ends(book, windows):
    """The list of the greatest edges such that all hours that are not behind them keep all highs."""
    need_book(book)
    _need_windows(book, windows)
    return tops_of(book, _highs_of(windows))


def begins(book, windows):
    """The list of the least edges such that all hours that are not ahead of them keep all lows."""
    need_book(book)
    _need_windows(book, windows)
    turned = tops_of(turned_about(book), _highs_of(_turned(windows)))
    return [turned_edge(edge) for edge in turned[::-1]]


def boxes(book, windows):
    """The list of all tuples of a begin and an end such that no hour of the begin is behind that of the end."""
    lows = begins(book, windows)
    highs = ends(book, windows)
    return [(dict(low), dict(high)) for low in lows for high in highs if _is_box(low, high)]


def _is_box(low, high):
    return all([low[name] is None or high[name] is None or low[name] <= high[name] for name in low])


def _lows_broken_at(known, windows, edge):
    """The ascending list of the keys whose lows are not kept from an edge on, where None is as late as one likes."""
    broken = []
    for key, low in sorted(_lows_of(windows).items()):
        hour = hour_at_edge(known[key], edge)
        if hour is not None and hour < low:
            broken.append(key)
    return broken


def _good_ends(book, windows):
    """The ends from which on all windows are kept, where None is as late as one likes."""
    known = rows_of_keys(book, list(windows))
    return [edge for edge in tops_of(book, _highs_of(windows)) if not _lows_broken_at(known, windows, edge)]


def _hours_of(windows):
    return [hour for span in windows.values() for hour in span if hour is not None]


def some_hours(book, windows):
    """Any hours that keep windows, None if there are none."""
    need_book(book)
    _need_windows(book, windows)
    found = _good_ends(book, windows)
    return beginning_at(book, found[0], _hours_of(windows)) if found else None


def why_none(book, windows):
    """For each end the round and the scribe whose low is not kept from it on, None if some hours keep the windows."""
    need_book(book)
    _need_windows(book, windows)
    known = rows_of_keys(book, list(windows))
    found = []
    for edge in tops_of(book, _highs_of(windows)):
        broken = _lows_broken_at(known, windows, edge)
        if not broken:
            return None
        many, name = broken[0]
        found.append((edge, many, name))
    return found


def room(book, windows, hours, name):
    """The earliest and the latest hour that a scribe may begin with, the others as told, None if there is no hour."""
    need_book(book)
    _need_windows(book, windows)
    need_hours(hours, book.names())
    need_one_of(name, book.names())
    latest = _latest_hours(book, windows, hours, name)
    turned = _latest_hours(turned_about(book), _turned(windows), turned_edge(hours), name)
    if not latest or not turned:
        return None
    least = None if None in turned else -max(turned)
    return _span_or_none(least, None if None in latest else max(latest))


def _span_or_none(least, most):
    """The tuple of a least and a greatest number, each None if there is none; None if the least is above the other."""
    if least is not None and most is not None and least > most:
        return None
    return (least, most)


def _latest_hours(book, windows, hours, name):
    """For each end that leaves room for what the other scribes begin with the hour that it tells for a scribe."""
    others = {other: hours[other] for other in book.names() if other != name}
    found = []
    for edge in tops_of(book, _highs_of(windows)):
        if is_within(others, {other: edge[other] for other in others}):
            found.append(edge[name])
    return found


def common_room(book, windows, hours):
    """The least and the greatest number by which all hours may be later so that windows are kept; None if none is."""
    need_book(book)
    _need_windows(book, windows)
    need_hours(hours, book.names())
    every = run(book, hours, LATEST_ROUND)
    least = max([low - every[many][name] for (many, name), low in _lows_of(windows).items()], default=None)
    most = min([high - every[many][name] for (many, name), high in _highs_of(windows).items()], default=None)
    return _span_or_none(least, most)


def tightest(book, windows):
    """The narrowest windows with the same keys that the same beginnings keep, None if no beginning keeps them."""
    need_book(book)
    _need_windows(book, windows)
    latest = _latest_of_keys(book, windows)
    if latest is None:
        return None
    turned = _latest_of_keys(turned_about(book), _turned(windows))
    return {key: (turned_hour(turned[key]), latest[key]) for key in sorted(windows)}


def _latest_of_keys(book, windows):
    """For each key the greatest hour over all beginnings that keep windows, None for no bound; None if none keeps."""
    known = rows_of_keys(book, list(windows))
    found = _good_ends(book, windows)
    if not found:
        return None
    latest = {}
    for key in windows:
        told = [hour_at_edge(known[key], edge) for edge in found]
        latest[key] = None if None in told else max(told)
    return latest


def same_windows(book, one, other):
    """Any hours that keep just one of two windows, None if the same beginnings keep both."""
    need_book(book)
    _need_windows(book, one)
    _need_windows(book, other)
    turned_book = turned_about(book)
    for some, others in [(one, other), (other, one)]:
        hours = _hours_beyond(book, some, others)
        if hours is not None:
            return hours
        hours = _hours_beyond(turned_book, _turned(some), _turned(others))
        if hours is not None:
            return turned_edge(hours)
    return None


def _hours_beyond(book, windows, others):
    """Any hours that keep windows, and do not keep all highs of other ones, None if there are none."""
    highs = _highs_of(others)
    known = rows_of_keys(book, list(highs))
    for edge in _good_ends(book, windows):
        if any([is_beyond(hour_at_edge(known[key], edge), high) for key, high in highs.items()]):
            return beginning_at(book, edge, _hours_of(windows) + _hours_of(others))
    return None


def widening(book, windows):
    """The least number by which lows less and highs more would let some beginning keep windows, None if none is."""
    need_book(book)
    _need_windows(book, windows)
    lows = _lows_of(windows)
    known = rows_of_keys(book, list(lows))
    # What the least of all hours less their lows tells, and what the greatest of all hours less their highs tells.
    over_lows = [row for key, low in lows.items() for row in moved_rows(known[key], -low)]
    apart = widest_gap(over_lows, rows_of_highs(book, _highs_of(windows)))
    return None if apart is None else -(apart // 2)
