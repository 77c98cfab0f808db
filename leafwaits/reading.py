"""Reading of small texts: what a text may be of, None if it is surely of nothing.

Whoever reads a text by these functions writes again what came of it, and looks whether the very text comes out: so
needless signs, or things in another order, need not be looked for here.
"""

from leafwaits.checks import is_name


def whole_in(text):
    """The whole number that a text may be of, None if it is surely of none."""
    digits = text[1:] if text.startswith("-") else text
    return int(text) if digits.isascii() and digits.isdigit() else None


def wholes_in(text):
    """The list of the whole numbers that a text may be of, None if it is surely of none."""
    numbers = [whole_in(word) for word in text.split(", ")]
    return None if None in numbers else numbers


def entries_in(text):
    """The list of tuples of a name and a whole number that a text may be of, None if it is surely of none."""
    entries = []
    for entry in text.split(", "):
        name, _, number = entry.partition(" ")
        if not is_name(name) or whole_in(number) is None:
            return None
        entries.append((name, whole_in(number)))
    return entries


def span_in(text):
    """The tuple of a low and a high that a text may be of, None if it is surely of none."""
    words = text.split(" ")
    if words.count("to") != 1 or len(words) > 3:
        return None
    at = words.index("to")
    ends = [whole_in(word) for word in words[:at] + words[at + 1:]]
    if None in ends or at > 1 or len(words) > at + 2:
        return None
    return (ends[0] if at == 1 else None, ends[-1] if len(words) == at + 2 else None)


def term_in(text):
    """The term that a text may be of, None if it is surely of none."""
    found = _term_at(text, 0)
    return found[0] if found is not None and found[1] == len(text) else None


def _term_at(text, at):
    """The tuple of the term that begins at a place of a text and of the place behind it, None if there is none."""
    word = _letters_at(text, at)
    behind = at + len(word)
    if text.startswith("(", behind):
        return _terms_at(text, behind, (word,)) if word in ("first", "last") else None
    if not text.startswith(" ", behind):
        return None
    name = _letters_at(text, behind + 1)
    if name:
        return _part_at(text, behind + 1 + len(name), ("now", name)) if word == "now" else None
    found = _part_at(text, behind, ("of", word))
    if word == "rank" and found is not None and text.startswith("(", found[1]):
        return _terms_at(text, found[1], ("rank", found[0][2]))
    return found


def _letters_at(text, at):
    behind = at
    while behind < len(text) and "a" <= text[behind] <= "z":
        behind = behind + 1
    return text[at:behind]


def _part_at(text, at, begin):
    """The part that begins with two things and has, at a place, a blank and its wait; and the place behind it."""
    behind = at + 1
    while behind < len(text) and text[behind] in "-0123456789":
        behind = behind + 1
    wait = whole_in(text[at + 1:behind])
    if not text.startswith(" ", at) or wait is None:
        return None
    return (begin + (wait,), behind)


def _terms_at(text, at, begin):
    """The term that begins with some things and has, at a place, its terms in parentheses; and the place behind it."""
    terms = []
    while not terms or text.startswith(", ", at):
        found = _term_at(text, at + (2 if terms else 1))
        if found is None:
            return None
        terms.append(found[0])
        at = found[1]
    return (begin + (terms,), at + 1) if text.startswith(")", at) else None
