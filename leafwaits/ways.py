"""Ways on which lateness can go from scribe to scribe, whatever the waits."""

from leafwaits.terms import is_part, parts_at, rank_of_term, rebuilt, with_terms

# In a book made for a way all hours are 0 or 1, so a part that waits so much more or less than others is out of play.
FAR = 2


def ways_from(who, terms):
    """For each scribe to which a way leads from another one the last step of such a way.

    A step is a tuple of the round in which the lateness comes to the scribe, the path of the part by which it comes,
    and the scribe from which it comes in the same round or the round before, None if this is the beginning.
    """
    ways = {}
    for name, term in terms.items():
        for path, part in parts_at(term, ()):
            if part[0] == "of" and part[1] == who and name not in ways:
                ways[name] = (1, path, None)
    for _ in range(len(terms)):
        for name, term in terms.items():
            for path, part in parts_at(term, ()):
                if part[1] in ways and name not in ways:
                    ways[name] = (ways[part[1]][0] + (1 if part[0] == "of" else 0), path, part[1])
    return ways


def terms_of_way(name, terms, ways):
    """The terms with such waits that lateness goes all the way to a scribe if all hours are 0."""
    made = {other: with_waits(term, 0) for other, term in terms.items()}
    while name is not None:
        _, path, ahead = ways[name]
        made[name] = _deciding(terms[name], path)
        name = ahead
    return made


def with_waits(term, wait):
    """The term in which each part has one wait."""
    return rebuilt(term, lambda part: (part[0], part[1], wait))


def _deciding(term, path):
    """The term with such waits that the part at a path decides what it tells."""
    if is_part(term):
        return with_waits(term, 0)
    at = path[0]
    early = rank_of_term(term) - 1
    others = term[-1][:at] + term[-1][at + 1:]
    terms = [with_waits(inner, -FAR if place < early else FAR) for place, inner in enumerate(others)]
    terms.insert(at, _deciding(term[-1][at], path[1:]))
    return with_terms(term, terms)
