"""What several tests need: random terms, the rows of a term by their definition, and objects of all kinds."""

import itertools
import random

from leafwaits.books import Book
from leafwaits.errors import LeafError
from leafwaits.live import Hall, Trial
from leafwaits.rules import Rule, named
from leafwaits.seen import Sights
from leafwaits.stairs import Stair


def random_term(rng, parts, names, nows=(), waits=5, depth=3):
    """A random term with just so many parts."""
    if parts == 1 and (depth == 0 or rng.random() < 0.8):
        if nows and rng.random() < 0.5:
            return ("now", rng.choice(nows), rng.randint(-waits, waits))
        return ("of", rng.choice(names), rng.randint(-waits, waits))
    many = parts if depth <= 1 else rng.randint(1, parts)
    sizes = [1] * many
    for _ in range(parts - many):
        sizes[rng.randrange(many)] += 1
    terms = [random_term(rng, size, names, nows, waits, depth - 1) for size in sizes]
    word = rng.choice(["first", "last", "rank"])
    return ("rank", rng.randint(1, many), terms) if word == "rank" else (word, terms)


def random_rule(rng, parts=6, names="abcd", nows=(), waits=5):
    names = [name for name in names]
    return Rule(random_term(rng, rng.randint(1, parts), names, list(nows), waits))


def random_book(rng, names="abc", parts=4, waits=5):
    """A random book in which each scribe may hang on those ahead of it in some order."""
    order = list(names)
    rng.shuffle(order)
    rules = [(name, random_rule(rng, parts, names, order[:at], waits)) for at, name in enumerate(order)]
    return Book(rules)


def random_hours(rng, names, most=15):
    return {name: rng.randint(-most, most) for name in names}


def all_rows(term):
    """All rows of a flat term, choice by choice, as point 40 says it; rows as dictionaries."""
    if term[0] == "of":
        return [{term[1]: term[2]}]
    lists = [all_rows(inner) for inner in term[-1]]
    rank = {"first": 1, "last": len(lists)}.get(term[0], term[1])
    found = []
    for chosen in itertools.combinations(lists, rank):
        for choice in itertools.product(*chosen):
            row = {}
            for part in choice:
                for name, wait in part.items():
                    row[name] = max(wait, row.get(name, wait))
            found.append(row)
    return found


def within(row, other):
    return all(name in other and wait <= other[name] for name, wait in row.items())


def canonical_by_definition(term):
    """The canonical rows of a flat term, by the words of point 41."""
    lone = []
    for row in all_rows(term):
        if row not in lone:
            lone.append(row)
    kept = [row for row in lone if not any(other != row and within(other, row) for other in lone)]
    return sorted(sorted(row.items()) for row in kept)


def told_by_definition(term, hours, now):
    if term[0] == "of":
        return hours[term[1]] + term[2]
    if term[0] == "now":
        return now[term[1]] + term[2]
    told = sorted(told_by_definition(inner, hours, now) for inner in term[-1])
    if term[0] == "rank":
        return told[term[1] - 1]
    return told[0] if term[0] == "first" else told[-1]


def behind_by_definition(book, hours):
    this = {}
    while len(this) < len(book):
        for name in book.names():
            if name not in this and all(other in this for other in named(book.rule(name))[1]):
                this[name] = told_by_definition(book.rule(name).term(), hours, this)
    return this


def rounds_by_definition(book, hours, many):
    for _ in range(many):
        hours = behind_by_definition(book, hours)
    return hours


def row_hour(row, hours):
    return max(hours[name] + wait for name, wait in row)


def column_hour(column, hours):
    return min(hours[name] + wait for name, wait in column)


def make(hall, change):
    return getattr(hall, change[0])(*change[1:])


def state(hall):
    """All that a hall tells, and what it would tell if changes were taken back and made again, one after the other."""
    inner = hall.copy()
    found = []
    for step in ["redo", "undo"]:
        while True:
            found.append(([(name, inner.book().rule(name).term()) for name in inner.book().names()], inner.hours(),
                          inner.rounds(), len(inner), readable_log(inner.log())))
            try:
                getattr(inner, step)()
            except LeafError:
                break
    return found


def readable_log(log):
    return [tuple(thing.term() if isinstance(thing, Rule) else thing for thing in change) for change in log]


def any_objects():
    """Objects of all the kinds of which any object may be, and some that are nearly right."""
    rule = Rule(("of", "ann", 1))
    now_rule = Rule(("now", "ann", 1))
    return [
        None, True, False, 0, 1, -1, 2, 10 ** 30, "", "ann", "Ann", "abcdefghi", "an1", "ann ", "of",
        [], [1], [None], ["ann"], ["ann", "bob"], [("ann", 1)], [("ann", True)], [["ann", 1]], [[("ann", 1)]],
        [(0,)], [(True,)], [(0,), (0,)], [("ann", rule)], [("ann", now_rule)], [("ann", rule), ("ann", rule)],
        [["ann", rule]], (("ann", rule),), (), (0,), (False,), (0, 0), (-1,), ("ann", 1), ("of", "ann", 1),
        ("of", "ann", True), ["of", "ann", 1], ("first", []), ("first", ()), ("last", [("of", "ann", 1)]),
        ("rank", 0, [("of", "ann", 1)]), ("rank", True, [("of", "ann", 1)]), {}, {"ann": 1}, {"ann": True},
        {"ann": "ann"}, {"ann": "bob"}, {"ann": "bob", "bob": "bob"}, {"ann": rule}, {"Ann": rule}, {1: 2},
        {("ann", 1): 1}, {"ann": 1, "Bob": 1}, {"ann": 1, "bob": None}, {None: None}, [[[[[[{}]]]]]],
        rule, now_rule, Book([("ann", rule)]), Book([("zed", Rule(("of", "zed", 0)))]), LeafError(), Stair(0, [0]),
        Stair(-1, []), [Stair(0, [])], (Stair(0, []),), [0, 1], [1, 0], [0, 0], [-1], [True], {"ann": -1}, {"zed": 1},
        {(0, "ann"): (1, 2)}, {(2, "bob"): (None, 5), (0, "ann"): (None, None)}, {(True, "ann"): (1, 2)},
        {(3, "ann"): (1, 2)}, {(0, "ann"): (2, 1)}, {(0, "ann"): [1, 2]}, {(0, "ann"): (1, True)}, {(0, "zed"): (1, 2)},
        {(0,): (1, 2)}, {(-1, "ann"): (1, 2)}, {(0, "ann"): (1, 2, 3)}, {(1, 2): (1, 2)}, {(0, "ann"): None},
        Sights(["ann"], 1, []), [Sights(["ann"], 1, [])], {"ann": Sights(["ann"], 1, [])}, [({"ann": 1}, 1, 2)],
        [({"ann": 1, "bob": 2}, 1, 2)], [({"ann": 1, "bob": 2}, 2, 1)], ({"ann": 1, "bob": 2}, 1, 2), ({"ann": 1}, 1, 2),
        ({"ann": 1, "bob": True}, 1, 2), [[{"ann": 1, "bob": 2}, 1, 2]], Hall(Book([("ann", rule)]), {"ann": 0}),
        [("round", -1)], [("round",)], ("round", 1), [["round", 1]], [("rounds", 1)], [("late", "ann")], "round -01",
        "ann 01", "to: 0 ann\n", [("try", ())], [("undo", 1)], Trial(None),
    ]


def seeded(number):
    return random.Random(number)
