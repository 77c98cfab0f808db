"""Sights: what was seen of one scribe, and which rules it leaves open."""

from leafwaits.books import need_book
from leafwaits.canon import negated
from leafwaits.checks import is_count, is_just_hours, is_name, is_span, is_whole, need_count_from, need_count_within
from leafwaits.checks import need_hours, need_just_hours, need_whole
from leafwaits.edges import hour_at_edge, turned_edge, turned_hour
from leafwaits.errors import Clash, InvalidCount, InvalidNames, InvalidSights
from leafwaits.fitting import brought_in, clashes, earliest_of, full_waits, hours_left_open, is_fitting, is_in_span
from leafwaits.fitting import latest_of, may_wait, outermost_rules, standing_names, telling_names
from leafwaits.lots import least_lots
from leafwaits.rounds import run
from leafwaits.rules import Rule, need_flat

MOST_WATCHED = 8


class Sights:
    """Sights that never change; two are equal exactly if their names, their mosts and their rows are."""

    def __init__(self, names, most, rows):
        if not _is_ascending(names):
            raise InvalidNames(names)
        _need_most(most)
        if not isinstance(rows, list) or not all([_is_seen_row(row, names) for row in rows]):
            raise InvalidSights(rows)
        self._names = list(names)
        self._most = most
        self._rows = [(dict(hours), low, high) for hours, low, high in rows]

    def names(self):
        """The ascending list of the names that the scribe may look at."""
        return list(self._names)

    def most(self):
        """The greatest wait that the scribe may have, None if its waits may be of any sign."""
        return self._most

    def rows(self):
        """The list of tuples of the hours that were handed, and of the low and the high of what was seen then."""
        return [(dict(hours), low, high) for hours, low, high in self._rows]

    def with_row(self, row):
        """The sights with one row more at the end."""
        if not _is_seen_row(row, self._names):
            raise InvalidSights(row)
        return Sights(self._names, self._most, self._rows + [row])

    def without(self, at):
        """The sights without the row at a position."""
        need_count_within(0, len(self._rows) - 1, at)
        return Sights(self._names, self._most, self._rows[:at] + self._rows[at + 1:])

    def __len__(self):
        return len(self._rows)

    def __eq__(self, other):
        if not isinstance(other, Sights):
            return False
        return self._names == other._names and self._most == other._most and self._rows == other._rows


def _is_ascending(value):
    """Whether an object is an ascending list, not empty, of names."""
    if not isinstance(value, list) or not value or not all([is_name(name) for name in value]):
        return False
    return all([value[at - 1] < value[at] for at in range(1, len(value))])


def _need_most(value):
    if value is not None and not is_count(value):
        raise InvalidCount(value)


def _is_seen_row(value, names):
    """Whether an object is a tuple of hours of just some names, and of a low and a high."""
    return isinstance(value, tuple) and len(value) == 3 and is_just_hours(value[0], names) and is_span(value[1:])


def need_sights(value):
    """Raises InvalidSights unless an object is sights."""
    if not isinstance(value, Sights):
        raise InvalidSights(value)


def _need_fitting(value):
    """Raises InvalidSights unless an object is sights, then Clash if no rule fits them."""
    need_sights(value)
    if clashes(value):
        raise Clash(value)


def fits(sights):
    """Whether some rule fits sights."""
    return clash(sights) is None


def clash(sights):
    """Any positions of two rows for which no name stands, None if some rule fits."""
    need_sights(sights)
    found = clashes(sights)
    return found[0] if found else None


def check_clash(sights, value):
    """Whether an object is a tuple of the positions of two rows for which no name stands."""
    need_sights(sights)
    if not isinstance(value, tuple) or not all([is_count(at) for at in value]):
        return False
    return value in clashes(sights)


def latest_rows(sights):
    """The ascending list of the canonical rows of the latest rule that fits, empty if there is none."""
    _need_fitting(sights)
    return latest_of(sights)


def earliest_columns(sights):
    """The ascending list of the canonical columns of the earliest rule that fits, empty if there is none."""
    _need_fitting(sights)
    return earliest_of(sights)


def latest_at(sights, hours):
    """The hour that the latest rule that fits tells, None if there is none."""
    _need_fitting(sights)
    need_hours(hours, sights.names())
    return hour_at_edge(latest_of(sights), hours)


def earliest_at(sights, hours):
    """The hour that the earliest rule that fits tells, None if there is none."""
    _need_fitting(sights)
    need_hours(hours, sights.names())
    return _earliest_hour(earliest_of(sights), hours)


def _earliest_hour(columns, edge):
    """The hour that columns tell at an edge, where None is however early; None if it has no bound."""
    return turned_hour(hour_at_edge(negated(columns), turned_edge(edge)))


def rule_fits(sights, rule):
    """Whether a flat rule fits sights."""
    need_sights(sights)
    need_flat(rule)
    return is_fitting(sights, rule)


def moments(sights, hours):
    """The ascending list of the longest stretches of hours that rules that fit tell, None for an end without bound."""
    _need_fitting(sights)
    need_hours(hours, sights.names())
    least = _earliest_hour(earliest_of(sights), hours)
    most = hour_at_edge(latest_of(sights), hours)
    if sights.most() is None:
        return [(least, most)]
    spans = [(hours[name], hours[name] + sights.most()) for name in sights.names()]
    return _stretches([(max(low, least), min(high, most)) for low, high in spans])


def _stretches(spans):
    """The ascending list of the longest stretches of the whole numbers that lie in some tuples of a low and a high."""
    found = []
    for low, high in sorted(spans):
        if found and low <= found[-1][1] + 1:
            found[-1] = (found[-1][0], max(high, found[-1][1]))
        elif low <= high:
            found.append((low, high))
    return found


def rule_with(sights, hours, hour):
    """Any rule that fits sights and tells an hour at hours, None if there is none."""
    _need_fitting(sights)
    need_hours(hours, sights.names())
    need_whole(hour)
    names = [name for name in sights.names() if may_wait(sights, hour - hours[name])]
    if not names or not any([is_in_span(hour, span) for span in moments(sights, hours)]):
        return None
    return brought_in(sights, Rule(("of", names[0], hour - hours[names[0]])))


def after_rounds(seen, hours, many):
    """For each scribe the least and the greatest hour of a round, over all books of rules that fit what was seen."""
    _need_all_sights(seen)
    for name in sorted(seen):
        _need_fitting(seen[name])
    need_just_hours(hours, list(seen))
    need_count_from(0, many)
    earliest = {name: earliest_of(sights) for name, sights in seen.items()}
    latest = {name: latest_of(sights) for name, sights in seen.items()}
    least = hours
    greatest = hours
    for _ in range(many):
        least = {name: _earliest_hour(columns, least) for name, columns in earliest.items()}
        greatest = {name: hour_at_edge(some, greatest) for name, some in latest.items()}
    return [(name, least[name], greatest[name]) for name in sorted(seen)]


def _need_all_sights(value):
    """Raises InvalidSights unless an object is a dictionary, not empty, from names to sights of some of these names."""
    if not isinstance(value, dict) or not value or not all([is_name(name) for name in value]):
        raise InvalidSights(value)
    if not all([isinstance(sights, Sights) for sights in value.values()]):
        raise InvalidSights(value)
    if not all([name in value for sights in value.values() for name in sights.names()]):
        raise InvalidSights(value)


def must_see(sights):
    """The ascending list of the names that stand in the canonical rows of each rule that fits."""
    return [lot[0] for lot in lots_stop(sights) if len(lot) == 1]


def lots_seen(sights):
    """The ascending list of all least lots of names such that some rule fits with these names alone."""
    _need_fitting(sights)
    standing = list(standing_names(sights).values())
    return sorted(least_lots(sights.names(), lambda lot: _is_lot_seen(standing, lot)))


def _is_lot_seen(standing, lot):
    return len(lot) > 0 and all([any([name in lot for name in names]) for names in standing])


def lots_stop(sights):
    """The ascending list of all least lots of names such that no rule fits without any of them."""
    _need_fitting(sights)
    standing = list(standing_names(sights).values())
    return sorted(least_lots(sights.names(), lambda lot: not _is_lot_seen(standing, _others(sights.names(), lot))))


def _others(names, lot):
    return [name for name in names if name not in lot]


def same_sights(one, other):
    """Whether the same rules fit two sights."""
    _need_like_sights(one, other)
    if not fits(one) or not fits(other):
        return fits(one) == fits(other)
    return latest_of(one) == latest_of(other) and earliest_of(one) == earliest_of(other)


def _need_like_sights(one, other):
    need_sights(one)
    need_sights(other)
    if one.names() != other.names() or one.most() != other.most():
        raise InvalidSights(other)


def unlike_rule(one, other):
    """Any rule that fits just one of two sights, None if the same rules fit both."""
    _need_like_sights(one, other)
    for sights, others in [(one, other), (other, one)]:
        if fits(sights):
            for rule in outermost_rules(sights, others):
                if not fits(others) or not is_fitting(others, rule):
                    return rule
    return None


def needless(sights):
    """The ascending list of the positions of the rows each of which, left out alone, leaves the same rules that fit."""
    _need_fitting(sights)
    return [at for at in range(len(sights)) if same_sights(sights, sights.without(at))]


def telling_hours(sights):
    """Any hours at which two rules that fit tell unlike hours, None if all rules that fit are alike."""
    _need_fitting(sights)
    return hours_left_open(sights)


def still_fit(sights):
    """The greatest number such that some rule fits so many rows from the first one on."""
    need_sights(sights)
    return min([max(pair) for pair in clashes(sights)], default=len(sights))


def lots_wrong(sights):
    """The ascending list of all least lots of positions of rows such that some rule fits the other ones."""
    need_sights(sights)
    found = clashes(sights)
    positions = list(range(len(sights)))
    return sorted(least_lots(positions, lambda lot: all([one in lot or other in lot for one, other in found])))


def watched(book, hours, many, most):
    """What is seen of each scribe of a book in some rounds from a beginning on."""
    need_book(book)
    need_hours(hours, book.names())
    need_count_within(0, MOST_WATCHED, many)
    _need_most(most)
    every = run(book, hours, many)
    found = {}
    for name in book.names():
        seen = [(before, now[name], now[name]) for before, now in zip(every, every[1:])]
        found[name] = Sights(book.names(), most, seen)
    return found


def _need_exact(sights):
    """Raises InvalidSights unless an object is sights with a most, each row of which has one hour alone."""
    need_sights(sights)
    if sights.most() is None or not all([is_whole(low) and low == high for _, low, high in sights.rows()]):
        raise InvalidSights(sights)


def last_latest(sights):
    """The row of the latest rule with one canonical row that fits sights, None if none fits."""
    _need_exact(sights)
    waits = full_waits(sights)
    return sorted(waits.items()) if waits and [] not in telling_names(sights, waits) else None


def last_moments(sights, hours):
    """The ascending list of the longest stretches of hours that rules with one canonical row that fit tell."""
    _need_exact(sights)
    need_hours(hours, sights.names())
    waits = full_waits(sights)
    telling = telling_names(sights, waits)
    if [] in telling:
        return []
    # For each row some name with its longest wait tells the hour; no such rule tells less than these come to.
    needed = [min([hours[name] + waits[name] for name in names]) for names in telling]
    return _stretches([(max([hours[name]] + needed), hours[name] + wait) for name, wait in waits.items()])
