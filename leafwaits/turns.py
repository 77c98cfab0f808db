"""Rounds of hours: all scribes hand, each in its turn, as the terms of their rules tell."""

from leafwaits.rings import hanging_order
from leafwaits.terms import parts_at, told_by


def turns_of(rules):
    """The tuples of name and term of some tuples of name and rule, each behind all those on which it hangs."""
    terms = {name: rule.term() for name, rule in rules}
    hung = {name: _hung_names(term) for name, term in terms.items()}
    return [(name, terms[name]) for name in hanging_order(hung)]


def _hung_names(term):
    return [part[1] for _, part in parts_at(term, ()) if part[0] == "now"]


def next_hours(turns, hours, held):
    """The hours of the next round, with the names in ascending order.

    Scribes that are keys of `held` hand as it says, whatever their rules tell.
    """
    now = {}
    for name, term in turns:
        now[name] = held[name] if name in held else told_by(term, hours, now)
    return {name: now[name] for name in sorted(now)}


def hours_along(turns, hours, many):
    """The list of the hours of so many rounds and, ahead of them, of the beginning."""
    every = [{name: hours[name] for name in sorted([turn[0] for turn in turns])}]
    for _ in range(many):
        every.append(next_hours(turns, every[-1], {}))
    return every
