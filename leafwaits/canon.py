"""The canonical rows of terms, and the one form of a rule that is made of rows or columns."""

from leafwaits.ladders import Ladders
from leafwaits.rules import Rule
from leafwaits.terms import is_part, parts_at, rank_of_term


def plain_rows(names):
    """For each name the rows of its own hour of the round before."""
    return {name: [[(name, 0)]] for name in names}


def canonical_rows(term, before, now):
    """The ascending list of the canonical rows of a term whose parts tell what rows tell.

    `before` and `now` have these rows for each name that stands in a part of the round before, and of this round.
    """
    lists = {}
    for _, part in parts_at(term, ()):
        source = before if part[0] == "of" else now
        lists[part] = [[(name, wait + part[2]) for name, wait in row] for row in source[part[1]]]
    ladders = Ladders([entry for some in lists.values() for row in some for entry in row])
    masks = {part: [ladders.mask(row) for row in some] for part, some in lists.items()}
    return sorted([ladders.row(mask) for mask in _term_masks(term, ladders, masks)])


def _term_masks(term, ladders, masks):
    if is_part(term):
        return ladders.least(masks[term])
    lists = [_term_masks(inner, ladders, masks) for inner in term[-1]]
    return ladders.ranked(rank_of_term(term), lists)


def least_rows(some):
    """The ascending list of those of some rows within which no other one of them lies, each once."""
    ladders = Ladders([entry for row in some for entry in row])
    return sorted([ladders.row(mask) for mask in ladders.least([ladders.mask(row) for row in some])])


def lies_within(row, other):
    """Whether each entry of a row stands in another one with a wait that is at least its own."""
    waits = dict(other)
    return all([name in waits and wait <= waits[name] for name, wait in row])


def negated(some):
    """The ascending list of some rows with all waits of the other sign."""
    return sorted([[(name, -wait) for name, wait in row] for row in some])


def rule_over(word, inner, some):
    """The rule of a word over the terms of another one, one of these for each of some rows."""
    terms = [_term_of(inner, [("of", name, wait) for name, wait in row]) for row in some]
    return Rule(_term_of(word, terms))


def _term_of(word, terms):
    return terms[0] if len(terms) == 1 else (word, terms)
