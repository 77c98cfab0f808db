"""Late rules: the greatest number by which what a rule tells can become later, told by how late its names are."""

from leafwaits.books import Book, need_book, rows_after
from leafwaits.checks import need_count_from, need_whole
from leafwaits.gaps import hours_parting, names_stand_in, unmet_row, widest_gap
from leafwaits.ladders import Ladders
from leafwaits.rows import matters, of_rows, rows
from leafwaits.rules import need_flat


def late_rule(rule):
    """The late rule of a flat rule, in the one form of its canonical rows."""
    need_flat(rule)
    return of_rows(_late_rows(rows(rule)))


def _late_rows(known):
    """The ascending list of the canonical rows of the late rule of a rule with some canonical rows."""
    lists = [_lates_at(row, known) for row in known]
    ladders = Ladders([entry for some in lists for row in some for entry in row])
    masks = [[ladders.mask(row) for row in some] for some in lists]
    return sorted([ladders.row(mask) for mask in ladders.ranked(len(masks), masks)])


def _lates_at(row, known):
    """The rows that tell how late a rule becomes where a row tells 0 and all names that it lacks are endlessly late."""
    waits = dict(row)
    found = [inner for inner in known if names_stand_in(inner, waits)]
    return [[(name, wait - waits[name]) for name, wait in inner] for inner in found]


def is_late_rule(rule):
    """Whether a flat rule tells at all hours the same as its own late rule."""
    need_flat(rule)
    known = rows(rule)
    # A rule that tells 0 where all hours are 0 is never behind its late rule.
    if min([max([wait for _, wait in row]) for row in known]) != 0:
        return False
    return all([unmet_row(_lates_at(row, known), known) is None for row in known])


def same_lates(one, other):
    """Whether two flat rules have late rules that tell the same for all lates."""
    need_flat(one)
    need_flat(other)
    return _late_rows(rows(one)) == _late_rows(rows(other))


def parting_lates(one, other):
    """Any lates for which the late rules of two flat rules do not tell the same, None if there are none."""
    need_flat(one)
    need_flat(other)
    names = sorted(set(matters(one) + matters(other)))
    return hours_parting(_late_rows(rows(one)), _late_rows(rows(other)), names)


def late_book(book):
    """The flat book of the late rules of what each scribe hands by the round before."""
    need_book(book)
    return _late_book_of(rows_after(book, 1))


def late_after(book, many):
    """The late book of so many rounds of a book."""
    need_book(book)
    need_count_from(1, many)
    return _late_book_of(rows_after(book, many))


def _late_book_of(known):
    return Book([(name, of_rows(_late_rows(some))) for name, some in known.items()])


def over_told(book, many):
    """By how much, at most, so many rounds of the late book tell more than the late book of so many rounds."""
    need_book(book)
    need_count_from(1, many)
    told = rows_after(late_book(book), many)
    known = rows_after(book, many)
    return {name: widest_gap(told[name], _late_rows(known[name])) for name in book.names()}


def whole_names(rule):
    """The ascending list of the names that can hand on a lateness whole, however great it is."""
    need_flat(rule)
    known = rows(rule)
    return [name for name in matters(rule) if any([_hands_on(name, row, known) for row in known])]


def _hands_on(name, row, known):
    """Whether a name stands in each of the rows whose names all stand in a row, and so in that one, too."""
    waits = dict(row)
    return all([name in dict(inner) for inner in known if names_stand_in(inner, waits)])


def harmless(rule, most):
    """Rows of how late each name may be, one row of which is kept just if the rule is late by a number at most."""
    need_flat(rule)
    need_whole(most)
    return [[(name, most - wait) for name, wait in row] for row in _late_rows(rows(rule))]
