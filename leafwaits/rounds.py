"""Rounds: the hours of a book round after round, from hours at the beginning, which are those of round 0."""

from leafwaits.books import need_book, rules_of
from leafwaits.checks import need_count_from, need_hours, need_one_of, need_whole
from leafwaits.turns import hours_along, next_hours, turns_of


def run(book, hours, many):
    """The list of the hours of the rounds from 0 to a number."""
    need_book(book)
    need_hours(hours, book.names())
    need_count_from(0, many)
    return hours_along(turns_of(rules_of(book)), hours, many)


def hours_after(book, hours, many):
    """The hours of the round with a number."""
    return run(book, hours, many)[-1]


def first_round(book, hours, name, hour, most):
    """The least round, up to a greatest one, in which a scribe hands at an hour or behind it, None if there is none."""
    need_book(book)
    need_hours(hours, book.names())
    need_one_of(name, book.names())
    need_whole(hour)
    need_count_from(0, most)
    turns = turns_of(rules_of(book))
    for many in range(most + 1):
        if hours[name] >= hour:
            return many
        hours = next_hours(turns, hours, {})
    return None


def meeting(book, one, other, most):
    """The least round, up to a greatest one, in which all hours from two beginnings differ by one and the same number.

    Returned with this number, which is that by which those from `other` are more; None if there is no such round.
    """
    need_book(book)
    need_hours(one, book.names())
    need_hours(other, book.names())
    need_count_from(0, most)
    turns = turns_of(rules_of(book))
    for many in range(most + 1):
        gaps = [other[name] - one[name] for name in book.names()]
        if min(gaps) == max(gaps):
            return (many, gaps[0])
        one = next_hours(turns, one, {})
        other = next_hours(turns, other, {})
    return None
