"""Leads: by how much one scribe can hand behind another one, or ahead of or behind all others, over all hours."""

from leafwaits.books import need_book, rows_after, turned_about
from leafwaits.checks import need_count_from, need_one_of, need_whole
from leafwaits.errors import InvalidBook
from leafwaits.gaps import hours_of_gap, unmet_row, widest_gap


def _need_two(book, one, other):
    need_book(book)
    need_one_of(one, book.names())
    need_one_of(other, book.names())


def lead(book, one, other, many=1):
    """The greatest number by which a scribe hands behind another one in a round, None if there is no greatest one."""
    _need_two(book, one, other)
    need_count_from(1, many)
    known = rows_after(book, many)
    return widest_gap(known[one], known[other])


def lead_hours(book, one, other, number, many=1):
    """Any hours from which on a scribe hands just so much behind another one in a round, None if there are none."""
    _need_two(book, one, other)
    need_whole(number)
    need_count_from(1, many)
    known = rows_after(book, many)
    return hours_of_gap(known[one], known[other], book.names(), number)


def _need_several(book, name):
    need_book(book)
    if len(book) == 1:
        raise InvalidBook(book)
    need_one_of(name, book.names())


def front(book, name, many=1):
    """The greatest number by which a scribe hands ahead of all others at once in a round, None if none is greatest."""
    _need_several(book, name)
    need_count_from(1, many)
    others, own = _others_and_own(book, name, many)
    return widest_gap(others, own)


def front_hours(book, name, number, many=1):
    """Any hours from which on a scribe hands just so much ahead of the first of the others in a round, None if none."""
    _need_several(book, name)
    need_whole(number)
    need_count_from(1, many)
    others, own = _others_and_own(book, name, many)
    return hours_of_gap(others, own, book.names(), number)


def _others_and_own(book, name, many):
    """The rows of the first hour of all scribes but one in a round, and those of this one's hour."""
    known = rows_after(book, many)
    return ([row for other in book.names() if other != name for row in known[other]], known[name])


def rear(book, name, many=1):
    """The greatest number by which a scribe hands behind all others at once in a round, None if none is greatest."""
    _need_several(book, name)
    need_count_from(1, many)
    return front(turned_about(book), name, many)


def rear_hours(book, name, number, many=1):
    """Any hours from which on a scribe hands just so much behind the last of the others in a round, None if none."""
    _need_several(book, name)
    need_whole(number)
    need_count_from(1, many)
    # Read from the other end of time, whoever is behind is ahead.
    hours = front_hours(turned_about(book), name, number, many)
    return None if hours is None else {other: -hour for other, hour in hours.items()}


def sure_order(book):
    """The ascending list of the tuples of unlike names of which the one never hands behind the other, in any round."""
    need_book(book)
    known = rows_after(book, 1)
    pairs = [(one, other) for one in book.names() for other in book.names() if one != other]
    return [(one, other) for one, other in pairs if unmet_row(known[one], known[other]) is None]
