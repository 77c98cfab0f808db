"""This run: what one lateness does from a told beginning, and which scribes an hour goes by at told hours."""

from leafwaits.books import need_book, rules_of
from leafwaits.checks import is_hours, need_count_from, need_hours, need_name_list, need_one_of, need_whole
from leafwaits.gaps import told_by_rows
from leafwaits.lots import least_lots
from leafwaits.rounds import run
from leafwaits.rows import matters, rows
from leafwaits.rules import named, need_flat, told
from leafwaits.stairs import Stair, stair_of_rank
from leafwaits.terms import is_part, rank_of_term
from leafwaits.turns import turns_of


def _need_begin(book, hours, names):
    need_book(book)
    need_hours(hours, book.names())
    need_name_list(names, book.names())


def carried(book, hours, names, many):
    """For each round from 0 to a number, for each scribe, the stair of its hour by how late some scribes begin."""
    _need_begin(book, hours, names)
    need_count_from(0, many)
    turns = turns_of(rules_of(book))
    every = [{name: Stair(hours[name], [0] if name in names else []) for name in book.names()}]
    for _ in range(many):
        now = {}
        for name, term in turns:
            now[name] = _stair_told(term, every[-1], now)
        every.append({name: now[name] for name in book.names()})
    return every


def _stair_told(term, before, now):
    """The stair that a term tells where each scribe has one in the round before, and some in this round."""
    if is_part(term):
        return (before if term[0] == "of" else now)[term[1]].shifted(term[2])
    return stair_of_rank(rank_of_term(term), [_stair_told(inner, before, now) for inner in term[-1]])


def spare(book, hours, names, name, many, limit):
    """How late some scribes can begin such that a scribe hands not behind an hour in a round.

    None if there is no greatest count, -1 if it hands behind the hour in any case.
    """
    _need_begin(book, hours, names)
    need_one_of(name, book.names())
    need_count_from(0, many)
    need_whole(limit)
    return carried(book, hours, names, many)[many][name].undone(limit)


def felt(book, hours, names, count, many):
    """For each round from 0 to a number by how much scribes hand later if some begin later by a count."""
    _need_begin(book, hours, names)
    need_count_from(0, count)
    need_count_from(0, many)
    begin = {name: hours[name] + (count if name in names else 0) for name in book.names()}
    found = []
    for late, plain in zip(run(book, begin, many), run(book, hours, many)):
        found.append({name: late[name] - plain[name] for name in plain if late[name] > plain[name]})
    return found


def _need_place(rule, hours):
    need_flat(rule)
    need_hours(hours, named(rule)[0])


def leeway(rule, hours, name):
    """How much earlier, and how much later, a scribe alone can hand without any change of the hour of a rule.

    None in the place of each of the two that has no end.
    """
    _need_place(rule, hours)
    need_one_of(name, named(rule)[0])
    hour = told(rule, hours)
    least = []
    most = []
    for row in rows(rule):
        # The hour up to which the scribe leaves this row at the rule's hour, or ahead of it.
        turn = dict([(other, hour - wait) for other, wait in row]).get(name)
        others = [hours[other] + wait for other, wait in row if other != name]
        if turn is not None and max(others, default=hour - 1) < hour:
            least.append(turn)
        if max(others, default=hour) <= hour:
            most.append(turn)
    earlier = hours[name] - max(least) if least else None
    return (earlier, None if None in most else max(most) - hours[name])


def holders(rule, hours):
    """The least lists of names that keep the hour of a rule from being earlier, however early all others hand."""
    _need_place(rule, hours)
    hour = told(rule, hours)
    late = [[name for name, wait in row if hours[name] + wait >= hour] for row in rows(rule)]
    return sorted(least_lots(matters(rule), lambda lot: _meets_all(lot, late)))


def hasteners(rule, hours):
    """The least lists of names that make the hour of a rule earlier if they alone hand early enough."""
    _need_place(rule, hours)
    hour = told(rule, hours)
    late = [[name for name, wait in row if hours[name] + wait >= hour] for row in rows(rule)]
    return sorted(least_lots(matters(rule), lambda lot: _has_some(lot, late)))


def pacers(rule, hours):
    """The least lists of names that keep the hour of a rule from being later, however late all others hand."""
    _need_place(rule, hours)
    telling = _names_of_telling(rule, hours)
    return sorted(least_lots(matters(rule), lambda lot: _has_some(lot, telling)))


def delayers(rule, hours):
    """The least lists of names that make the hour of a rule later if they alone hand late enough."""
    _need_place(rule, hours)
    telling = _names_of_telling(rule, hours)
    return sorted(least_lots(matters(rule), lambda lot: _meets_all(lot, telling)))


def _names_of_telling(rule, hours):
    """For each canonical row that tells just the hour of a rule its names."""
    hour = told(rule, hours)
    return [[name for name, _ in row] for row in rows(rule) if told_by_rows([row], hours) == hour]


def _meets_all(lot, lists):
    """Whether each of some lists has a name of a lot."""
    return all([any([name in lot for name in names]) for names in lists])


def _has_some(lot, lists):
    """Whether a lot has all names of one of some lists."""
    return any([all([name in lot for name in names]) for names in lists])


def _need_still(rule, hours, still):
    _need_place(rule, hours)
    need_name_list(still, named(rule)[0])


def earlier_hours(rule, hours, still):
    """Any hours at which the hour of a rule is earlier, some hand as told and no other one later; None if none."""
    _need_still(rule, hours, still)
    hour = told(rule, hours)
    for row in rows(rule):
        if all([hours[name] + wait < hour for name, wait in row if name in still]):
            found = {name: hours[name] for name in matters(rule)}
            for name, wait in row:
                found[name] = min(hours[name], hour - 1 - wait)
            return found
    return None


def later_hours(rule, hours, still):
    """Any hours at which the hour of a rule is later, some hand as told and no other one earlier; None if none."""
    _need_still(rule, hours, still)
    hour = told(rule, hours)
    found = {name: hours[name] for name in matters(rule)}
    for name, wait in [entry for row in rows(rule) for entry in row]:
        if name not in still:
            found[name] = max(found[name], hour + 1 - wait)
    return found if told_by_rows(rows(rule), found) > hour else None


def check_earlier(rule, hours, still, value):
    """Whether an object is hours at which the hour of a rule is earlier, some hand as told and no other one later."""
    _need_still(rule, hours, still)
    if not _is_as_told(matters(rule), hours, still, value):
        return False
    if any([value[name] > hours[name] for name in matters(rule)]):
        return False
    return told_by_rows(rows(rule), value) < told(rule, hours)


def check_later(rule, hours, still, value):
    """Whether an object is hours at which the hour of a rule is later, some hand as told and no other one earlier."""
    _need_still(rule, hours, still)
    if not _is_as_told(matters(rule), hours, still, value):
        return False
    if any([value[name] < hours[name] for name in matters(rule)]):
        return False
    return told_by_rows(rows(rule), value) > told(rule, hours)


def _is_as_told(names, hours, still, value):
    """Whether an object is hours of some names at which those that stand still hand as told."""
    if not is_hours(value, names):
        return False
    return all([value[name] == hours[name] for name in names if name in still])


def deciding(rule, hours):
    """The ascending list of the names that stand in some holder."""
    return sorted(set([name for lot in holders(rule, hours) for name in lot]))


def open_names(rule, hours):
    """The ascending list of the names of canonical rows that stand in no holder and in no pacer."""
    bound = [name for lot in holders(rule, hours) + pacers(rule, hours) for name in lot]
    return [name for name in matters(rule) if name not in bound]
