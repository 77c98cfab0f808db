"""What fits sights: which names stand for two of their rows, and the latest and the earliest rule that fits."""

from leafwaits.canon import least_rows, negated
from leafwaits.gaps import hours_parting, told_by_rows
from leafwaits.rows import of_columns, of_rows, rows
from leafwaits.rules import Rule, shifted


def standing_names(sights):
    """For each tuple of the positions of two rows the names that can keep the high of the first, the low of the other.

    So a name stands for them if it may have a wait that is not too long for this high, nor too short for this low.
    """
    seen = sights.rows()
    found = {}
    for above, row in enumerate(seen):
        for below, other in enumerate(seen):
            found[(above, below)] = [name for name in sights.names() if _stands(sights, name, row, other)]
    return found


def _stands(sights, name, row, other):
    longest = _longest_wait(sights, name, row)
    shortest = _shortest_wait(sights, name, other)
    return longest is None or shortest is None or shortest <= longest


def _longest_wait(sights, name, row):
    """The longest wait that a name may have for the high of a row, None if there is no longest one."""
    hours, _, high = row
    bounds = [] if high is None else [high - hours[name]]
    return min(bounds + ([] if sights.most() is None else [sights.most()]), default=None)


def _shortest_wait(sights, name, row):
    """The shortest wait that a name may have for the low of a row, None if there is no shortest one."""
    hours, low, _ = row
    bounds = [] if low is None else [low - hours[name]]
    return max(bounds + ([] if sights.most() is None else [0]), default=None)


def clashes(sights):
    """The list of all tuples of the positions of two rows for which no name stands."""
    return [pair for pair, names in standing_names(sights).items() if not names]


def may_wait(sights, wait):
    """Whether a rule that fits may have a wait."""
    return sights.most() is None or 0 <= wait <= sights.most()


def latest_of(sights):
    """The ascending list of the canonical rows of the latest rule that fits, empty if there is none."""
    some = []
    for row in sights.rows():
        if row[2] is not None:
            waits = [(name, _longest_wait(sights, name, row)) for name in sights.names()]
            some.append([(name, wait) for name, wait in waits if may_wait(sights, wait)])
    if not some and sights.most() is not None:
        some.append([(name, sights.most()) for name in sights.names()])
    return least_rows(some)


def earliest_of(sights):
    """The ascending list of the canonical columns of the earliest rule that fits, empty if there is none."""
    columns = []
    for row in sights.rows():
        if row[1] is not None:
            waits = [(name, _shortest_wait(sights, name, row)) for name in sights.names()]
            columns.append([(name, wait) for name, wait in waits if may_wait(sights, wait)])
    if not columns and sights.most() is not None:
        columns.append([(name, 0) for name in sights.names()])
    return negated(least_rows(negated(columns)))


def is_fitting(sights, rule):
    """Whether a flat rule fits sights."""
    some = rows(rule)
    if not all([name in sights.names() and may_wait(sights, wait) for row in some for name, wait in row]):
        return False
    told = [told_by_rows(some, hours) for hours, _, _ in sights.rows()]
    return all([is_in_span(hour, row[1:]) for hour, row in zip(told, sights.rows())])


def is_in_span(hour, span):
    """Whether an hour is not ahead of a low and not behind a high, each None if nothing is asked on its side."""
    low, high = span
    return (low is None or low <= hour) and (high is None or hour <= high)


def brought_in(sights, rule):
    """A rule that fits sights and, where the hour of a rule with right names and waits lies among theirs, tells it."""
    term = rule.term()
    latest = latest_of(sights)
    earliest = earliest_of(sights)
    if latest:
        term = ("first", [of_rows(latest).term(), term])
    if earliest:
        term = ("last", [of_columns(earliest).term(), term])
    return Rule(term)


def outermost_rules(sights, others):
    """Rules that fit sights, among which are such as do not fit other ones, if any rules are earlier or later."""
    latest = latest_of(sights)
    earliest = earliest_of(sights)
    beyond = latest_of(others)
    ahead = earliest_of(others)
    found = [brought_in(sights, Rule(("of", sights.names()[0], 0)))]
    if latest:
        found.append(of_rows(latest))
    elif beyond:
        found.append(brought_in(sights, shifted(of_rows(beyond), 1)))
    if earliest:
        found.append(of_columns(earliest))
    elif ahead:
        found.append(brought_in(sights, shifted(of_columns(ahead), -1)))
    return found


def hours_left_open(sights):
    """Any hours at which two rules that fit tell unlike hours, None if all rules that fit are alike."""
    latest = latest_of(sights)
    earliest = earliest_of(sights)
    if not latest or not earliest:
        return {name: 0 for name in sights.names()}
    return hours_parting(rows(of_columns(earliest)), latest, sights.names())


def full_waits(sights):
    """For each name that a last-of rule that fits may have the longest wait, if each row has one hour alone."""
    found = {}
    for name in sights.names():
        wait = min([_longest_wait(sights, name, row) for row in sights.rows()], default=sights.most())
        if wait >= 0:
            found[name] = wait
    return found


def telling_names(sights, waits):
    """For each row the names that come to its hour, each with its longest wait."""
    return [[name for name in waits if hours[name] + waits[name] == high] for hours, _, high in sights.rows()]
