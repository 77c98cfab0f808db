"""Terms as plain tuples and lists, of which rules are made."""

from leafwaits.checks import is_name, is_whole


def is_term(value):
    """Whether an object is a term."""
    if not isinstance(value, tuple) or len(value) < 2:
        return False
    word = value[0]
    if word in ("of", "now"):
        return len(value) == 3 and is_name(value[1]) and is_whole(value[2])
    if word in ("first", "last"):
        return len(value) == 2 and _is_term_list(value[1])
    if word == "rank" and len(value) == 3 and _is_term_list(value[2]):
        return is_whole(value[1]) and 1 <= value[1] <= len(value[2])
    return False


def _is_term_list(value):
    return isinstance(value, list) and len(value) > 0 and all([is_term(term) for term in value])


def is_part(term):
    """Whether a term is a part, so one of the first two kinds."""
    return term[0] in ("of", "now")


def rank_of_term(term):
    """The rank for which a term of terms waits: 1 for the first, their number for the last."""
    if term[0] == "rank":
        return term[1]
    return 1 if term[0] == "first" else len(term[-1])


def with_terms(term, terms):
    """The term of the same kind over other terms; a rank beyond their number becomes this number."""
    if term[0] == "rank":
        return ("rank", min(term[1], len(terms)), terms)
    return (term[0], terms)


def rebuilt(term, change):
    """The term, with new lists, in which each part is what a function makes of it."""
    if is_part(term):
        return change(term)
    return with_terms(term, [rebuilt(inner, change) for inner in term[-1]])


def copied(term):
    """The same term with new lists."""
    return rebuilt(term, lambda part: part)


def shifted_term(term, by):
    """The term in which each part waits so much more."""
    return rebuilt(term, lambda part: (part[0], part[1], part[2] + by))


def mirrored_term(term):
    """The term read from the other end of time."""
    if is_part(term):
        return (term[0], term[1], -term[2])
    terms = [mirrored_term(inner) for inner in term[-1]]
    if term[0] == "rank":
        return ("rank", len(terms) + 1 - term[1], terms)
    return ("last" if term[0] == "first" else "first", terms)


def told_by(term, hours, now):
    """The hour that a term tells at the hours of the round before and at those of this round."""
    if is_part(term):
        return (hours if term[0] == "of" else now)[term[1]] + term[2]
    told = sorted([told_by(inner, hours, now) for inner in term[-1]])
    return told[rank_of_term(term) - 1]


def parts_at(term, path):
    """The list, from left to right, of tuples of path and part, of a term that stands at a path itself."""
    if is_part(term):
        return [(path, term)]
    found = []
    for at, inner in enumerate(term[-1]):
        found.extend(parts_at(inner, path + (at,)))
    return found


def replaced(term, path, part):
    """The term, with new lists, with another part at a path."""
    if not path:
        return part
    terms = [copied(inner) for inner in term[-1]]
    terms[path[0]] = replaced(terms[path[0]], path[1:], part)
    return with_terms(term, terms)


def thinned(term, path, gone):
    """The term, which stands at a path, without the parts at the paths that are keys; None if none is left."""
    if is_part(term):
        return None if path in gone else term
    terms = [thinned(inner, path + (at,), gone) for at, inner in enumerate(term[-1])]
    terms = [inner for inner in terms if inner is not None]
    return with_terms(term, terms) if terms else None
