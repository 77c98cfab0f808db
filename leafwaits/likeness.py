"""Likeness of books in all that can be done to their halls, and changes that part the halls of books unlike so."""

from leafwaits.canon import canonical_rows, plain_rows
from leafwaits.gaps import hours_parting
from leafwaits.rules import Rule, named


def apart_rows(rule):
    """The canonical rows of a rule as if hours of the round before and of this round were those of different scribes.

    The names of this round stand there in capitals.
    """
    leaned, hung = named(rule)
    return canonical_rows(rule.term(), plain_rows(leaned), {name: [[(name.upper(), 0)]] for name in hung})


def needed_names(book, name):
    """The ascending list of the other scribes on which the rule of a scribe leans or hangs."""
    leaned, hung = named(book.rule(name))
    return [other for other in sorted(set(leaned + hung)) if other != name]


def unlike_name(one, other):
    """The first name whose rules in two books of the same names a hall can tell apart, None if there is none."""
    for name in one.names():
        if needed_names(one, name) != needed_names(other, name):
            return name
        if named(one.rule(name))[1] != named(other.rule(name))[1]:
            return name
        if apart_rows(one.rule(name)) != apart_rows(other.rule(name)):
            return name
    return None


def changes_that_part(one, other, hours):
    """Changes that part the halls of two books of the same names with the same hours, None if they are alike."""
    name = unlike_name(one, other)
    if name is None:
        return None
    needed = _first_unlike(needed_names(one, name), needed_names(other, name))
    if needed is not None:
        # Only one of the two rules keeps this scribe from leaving.
        return _on_their_own(one, [name, needed]) + [("leave", needed)]
    hung = _first_unlike(named(one.rule(name))[1], named(other.rule(name))[1])
    if hung is not None:
        # Only one of the two rules would come back to its beginning.
        return _on_their_own(one, [name, hung]) + [("put", hung, Rule(("now", name, 0)))]
    return _changes_to_tell(one, other, name, hours)


def _first_unlike(names, others):
    found = [name for name in names + others if name not in names or name not in others]
    return found[0] if found else None


def _on_their_own(book, names):
    """The changes by which all scribes but some go by nobody else."""
    return [("put", name, Rule(("of", name, 0))) for name in book.names() if name not in names]


def _changes_to_tell(one, other, name, hours):
    """The changes behind which a scribe whose rules tell unlike hours at some hours hands at unlike hours.

    All hours are brought to such hours, so much later that none has to be earlier, and all other scribes get rules by
    which they hand in the next round as those hours of this round tell.
    """
    names = one.names()
    marked = [each.upper() for each in names]
    apart = hours_parting(apart_rows(one.rule(name)), apart_rows(other.rule(name)), names + marked)
    later = max([hours[each] - apart[each] for each in names])
    late = [("late", each, apart[each] + later - hours[each]) for each in names]
    puts = [("put", each, Rule(("of", each, apart[each.upper()] - apart[each]))) for each in names if each != name]
    return late + puts + [("round", 1)]
