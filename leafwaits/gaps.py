"""How far apart what two flat rules tell can be, at all hours, decided by their canonical rows.

In this file a list of canonical rows stands for its rule.
"""

from leafwaits.canon import lies_within


def told_by_rows(some, hours):
    """The hour that a rule tells, by its rows."""
    return min([max([hours[name] + wait for name, wait in row]) for row in some])


def names_stand_in(row, waits):
    """Whether all names of a row are keys of a dictionary."""
    return all([name in waits for name, _ in row])


def unmet_row(some, others):
    """The first of the other rows within which none of some rows lies, None if there is none."""
    for row in others:
        if not any([lies_within(inner, row) for inner in some]):
            return row
    return None


def hours_for_row(row, others, names):
    """Hours of some names at which a row tells 0, and all others, of which none lies within it, tell more."""
    return _hours_with(row, others, names, 1)


def _hours_with(row, others, names, least):
    """Hours of some names at which a row tells 0, and all others that have a name besides its own at least so much."""
    hours = {name: 0 for name in names}
    for name, wait in [entry for other in others for entry in other]:
        hours[name] = max(hours[name], least - wait)
    for name, wait in row:
        hours[name] = -wait
    return hours


def hours_behind_row(some, others, names):
    """Any hours of some names at which a rule tells more than another one, None if there are none."""
    row = unmet_row(some, others)
    return None if row is None else hours_for_row(row, some, names)


def hours_parting(some, others, names):
    """Any hours of some names at which two rules do not tell the same, None if there are none."""
    hours = hours_behind_row(some, others, names)
    return hours_behind_row(others, some, names) if hours is None else hours


def widest_gap(some, others):
    """The greatest number by which a rule tells more than another one, None if there is no greatest one."""
    gaps = [_gap_at(some, row) for row in others]
    return None if None in gaps else max(gaps)


def _gap_at(some, row):
    """What a rule tells where a row tells 0 and all names that it lacks are endlessly late; None if this is endless."""
    waits = dict(row)
    gaps = []
    for inner in some:
        if names_stand_in(inner, waits):
            gaps.append(max([wait - waits[name] for name, wait in inner]))
    return min(gaps, default=None)


def hours_of_gap(some, others, names, number):
    """Any hours of some names at which a rule tells just so much more than another one, None if there are none."""
    high = _hours_of_gap_from(some, others, names, number)
    low = _hours_of_gap_from(others, some, names, -number)
    if low is None or high is None:
        return None
    return _hours_between(low, high, number, lambda hours: told_by_rows(some, hours) - told_by_rows(others, hours))


def _hours_of_gap_from(some, others, names, least):
    """Any hours of some names at which a rule tells at least so much more than another one, None if there are none."""
    for row in others:
        gap = _gap_at(some, row)
        if gap is None or gap >= least:
            return _hours_with(row, some + others, names, max(0, least))
    return None


def _hours_between(low, high, number, tells):
    """Any hours at which a function tells just a number.

    It tells at most the number at some hours, at least the number at others of the same names, and moves by 1 at
    most if one name's hour does.
    """
    hours = dict(low)
    for name in low:
        if tells({**hours, name: high[name]}) >= number:
            return _hours_along_name(hours, name, high[name], number, tells)
        hours[name] = high[name]
    return hours


def _hours_along_name(hours, name, end, number, tells):
    """Any hours at which a function tells just a number, moved from those passed by one name's hour alone."""
    begin = hours[name]
    while abs(end - begin) > 1:
        middle = (begin + end) // 2
        if tells({**hours, name: middle}) <= number:
            begin = middle
        else:
            end = middle
    found = {**hours, name: begin}
    return found if tells(found) == number else {**hours, name: end}
