"""Differences: the hour that one rule tells less the one that another rule tells, over all hours."""

from leafwaits.checks import is_count, need_whole
from leafwaits.gaps import hours_of_gap, widest_gap
from leafwaits.canon import lies_within
from leafwaits.rows import rows
from leafwaits.rules import named, need_flat


def spread(one, other):
    """The least and the greatest difference of two rules, None in the place of one that there is not."""
    need_flat(one)
    need_flat(other)
    own = rows(one)
    others = rows(other)
    least = widest_gap(others, own)
    return (None if least is None else -least, widest_gap(own, others))


def hours_of(one, other, number):
    """Any hours at which the difference of two rules is just a number, None if there are none."""
    need_flat(one)
    need_flat(other)
    need_whole(number)
    names = sorted(set(named(one)[0] + named(other)[0]))
    return hours_of_gap(rows(one), rows(other), names, number)


def why_at_most(one, other, number):
    """For each row of the other rule the place of a row of the one that is at most so much behind it, at all hours.

    None if the difference is above the number at some hours.
    """
    places = [_places_behind(rows(one), row, number) for row in _rows_of_other(one, other, number)]
    return None if [] in places else [found[0] for found in places]


def is_why_at_most(one, other, number, value):
    """Whether an object is a list of places that shows that the difference is never above a number."""
    others = _rows_of_other(one, other, number)
    if not isinstance(value, list) or not all([is_count(place) for place in value]) or len(value) != len(others):
        return False
    own = rows(one)
    return all([place in _places_behind(own, row, number) for place, row in zip(value, others)])


def _rows_of_other(one, other, number):
    need_flat(one)
    need_flat(other)
    need_whole(number)
    return rows(other)


def _places_behind(some, row, number):
    """The places of those of some rows that lie within a row whose waits are so much more."""
    raised = [(name, wait + number) for name, wait in row]
    return [place for place, inner in enumerate(some) if lies_within(inner, raised)]
