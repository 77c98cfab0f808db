"""Lateness: who can make whom late some rounds on, and by how much."""

from leafwaits.books import Book, farthest_wait, need_book, rows_after, rules_of
from leafwaits.checks import is_count, is_hours, need_count_within, need_hours, need_name_list, need_one_of, need_whole
from leafwaits.errors import InvalidLates
from leafwaits.gaps import hours_of_gap, names_stand_in, widest_gap
from leafwaits.lots import least_lots
from leafwaits.rounds import hours_after, run
from leafwaits.rules import Rule
from leafwaits.stairs import Stair
from leafwaits.turns import next_hours, turns_of
from leafwaits.ways import terms_of_way, ways_from, with_waits

MOST_ROUNDS = 3
MOST_ROUNDS_OF_HOURS = 30


def _need_lates(value, names):
    """Raises InvalidLates unless an object is a dictionary from some of the names to whole numbers."""
    if not is_hours(value, []) or not all([name in names for name in value]):
        raise InvalidLates(value)


def _need_case(book, lates, name, many):
    need_book(book)
    _need_lates(lates, book.names())
    need_one_of(name, book.names())
    need_count_within(1, MOST_ROUNDS, many)


def _need_pair(book, who, name):
    need_book(book)
    need_one_of(who, book.names())
    need_one_of(name, book.names())


def late_at(book, lates, hours, many):
    """How late each scribe is in a round, from hours at the beginning."""
    need_book(book)
    _need_lates(lates, book.names())
    need_hours(hours, book.names())
    need_count_within(0, MOST_ROUNDS_OF_HOURS, many)
    moved = {name: hours[name] + lates.get(name, 0) for name in book.names()}
    late = hours_after(book, moved, many)
    plain = hours_after(book, hours, many)
    return {name: late[name] - plain[name] for name in book.names()}


def most_late(book, lates, name, many):
    """The most by which a scribe is late in a round, over all hours of the beginning."""
    _need_case(book, lates, name, many)
    known = rows_after(book, many)[name]
    return widest_gap(_moved(known, lates), known)


def least_late(book, lates, name, many):
    """The least by which a scribe is late in a round, over all hours of the beginning."""
    _need_case(book, lates, name, many)
    known = rows_after(book, many)[name]
    return -widest_gap(known, _moved(known, lates))


def _moved(known, lates):
    """The rows that tell at hours what some rows tell at these hours with the lates."""
    return [[(name, wait + lates.get(name, 0)) for name, wait in row] for row in known]


def late_hours(book, lates, name, many, number):
    """Any hours of the beginning at which a scribe is late by just a number in a round, None if there are none."""
    _need_case(book, lates, name, many)
    need_whole(number)
    known = rows_after(book, many)[name]
    moved = _moved(known, lates)
    return hours_of_gap(moved, known, book.names(), number)


def late_stair(book, who, name, many):
    """The stair that tells for each count how late a scribe can be in a round if one scribe alone is late by it."""
    _need_pair(book, who, name)
    need_count_within(1, MOST_ROUNDS, many)
    known = rows_after(book, many)[name]
    return Stair(0, _late_corners([_steps_at(row, known, who) for row in known]))


def _steps_at(row, known, who):
    """How late a scribe may be where a row tells 0 and all names that it lacks are endlessly late.

    Told in steps (number, more) that rise in both: from this number on, the rule is late by at most a number just if
    the scribe is late by at most so much more, up to the next step; None stands for however late.
    """
    waits = dict(row)
    pairs = []
    for inner in known:
        if names_stand_in(inner, waits):
            gaps = [wait - waits[name] for name, wait in inner]
            own = [waits[name] - wait for name, wait in inner if name == who]
            pairs.append((max([0] + gaps), own[0] if own else None))
    steps = []
    for number, more in sorted(pairs, key=lambda pair: pair[0]):
        if not steps or _is_beyond(more, steps[-1][1]):
            steps.append((number, more))
    return steps


def _is_beyond(more, other):
    return other is not None and (more is None or more > other)


def _late_corners(lists):
    """The corners of the stair that tells the greatest of what some lists of steps tell."""
    corners = []
    number = 0
    while True:
        there = [[more for step, more in steps if step <= number][-1] for steps in lists]
        bounds = [more for more in there if more is not None]
        if not bounds:
            return corners
        corners.append(number + min(bounds))
        further = [[step for step, more in steps if _is_beyond(more, min(bounds))] for steps in lists]
        if [] in further:
            return corners
        number = max([found[0] for found in further])
        corners.append(number + min(bounds))


def reached(book, who, many):
    """The ascending list of the scribes that can be late in a round by a scribe's being late."""
    need_book(book)
    need_one_of(who, book.names())
    need_count_within(1, MOST_ROUNDS, many)
    known = rows_after(book, many)
    return [name for name in book.names() if any([who in dict(row) for row in known[name]])]


def held_late(book, lates, name, many, held):
    """The most by which a scribe is late in a round if some scribes hand in the rounds ahead of it as if none was."""
    _need_case(book, lates, name, many)
    need_name_list(held, book.names())
    turns = turns_of(rules_of(book))
    runs = _runs_of_rows(book, lates, name, many)
    return max([_held_hours(turns, hours, lates, held)[name] - hours[many][name] for hours in runs])


def _runs_of_rows(book, lates, name, many):
    """For each canonical row of a scribe's hour in a round a run from hours at which the row tells this hour.

    All names that the row lacks hand so late that no row that has one of them tells the hour, with the lates either.
    So the scribe is nowhere later, with these lates, than in some of these runs.
    """
    far = 1 + farthest_wait(book, many) + 2 * max([0] + [abs(late) for late in lates.values()])
    begins = []
    for row in rows_after(book, many)[name]:
        hours = {other: far for other in book.names()}
        for other, wait in row:
            hours[other] = -wait
        begins.append(hours)
    return [run(book, hours, many) for hours in begins]


def _held_hours(turns, hours, lates, held):
    """The hours of the last round of a run if lates come in at its beginning, and the held hand as in the run."""
    late = {name: hour + lates.get(name, 0) for name, hour in hours[0].items()}
    for plain in hours[1:-1]:
        late = next_hours(turns, late, {name: plain[name] for name in held})
    return next_hours(turns, late, {})


def stopping(book, who, name, many):
    """All least lots of names such that, these held, a scribe is never late in a round, however late another one is."""
    _need_pair(book, who, name)
    need_count_within(1, MOST_ROUNDS, many)
    # So late that no row that has this scribe tells the hour any more: what holds then holds however late it is.
    lates = {who: 1 + 2 * farthest_wait(book, many)}
    turns = turns_of(rules_of(book))
    runs = _runs_of_rows(book, lates, name, many)
    return least_lots(book.names(), lambda lot: _is_never_late(turns, runs, lates, name, lot))


def _is_never_late(turns, runs, lates, name, held):
    for hours in runs:
        if _held_hours(turns, hours, lates, held)[name] > hours[-1][name]:
            return False
    return True


def can_ever(book, who, name):
    """A book of the same shape, hours and a round in which a scribe is late by another one's; None if none can be."""
    _need_pair(book, who, name)
    terms = {other: rule.term() for other, rule in rules_of(book)}
    ways = ways_from(who, terms)
    if name not in ways:
        return None
    made = terms_of_way(name, terms, ways)
    other = Book([(scribe, Rule(term)) for scribe, term in made.items()])
    return (other, {scribe: 0 for scribe in book.names()}, ways[name][0])


def is_can_ever(book, who, name, value):
    """Whether an object is a book of the same shape, hours and a round in which a scribe is late by just 1."""
    _need_pair(book, who, name)
    if not isinstance(value, tuple) or len(value) != 3:
        return False
    other, hours, many = value
    if not isinstance(other, Book) or _shape(other) != _shape(book) or not is_hours(hours, book.names()):
        return False
    if not is_count(many) or not 1 <= many <= MOST_ROUNDS_OF_HOURS:
        return False
    return late_at(other, {who: 1}, hours, many)[name] == 1


def _shape(book):
    return [(name, with_waits(rule.term(), 0)) for name, rule in rules_of(book)]
