"""Books: a rule for each of some scribes."""

from leafwaits.canon import canonical_rows, plain_rows
from leafwaits.checks import is_just_hours, is_name, is_one_of, need_count_from, need_hours, need_one_of
from leafwaits.errors import InvalidBook, InvalidName, InvalidNames, InvalidRule, InvalidRules
from leafwaits.errors import StillNeeded, TakenName, Unlike
from leafwaits.gaps import hours_parting
from leafwaits.rings import shortest_ring
from leafwaits.rows import of_rows
from leafwaits.rules import Rule, mirrored, named, parts
from leafwaits.terms import rebuilt
from leafwaits.turns import hours_along, next_hours, turns_of


class Book:
    """A book that never changes; two are equal exactly if they have the same names with equal rules."""

    def __init__(self, rules):
        if not _is_rule_list(rules) or not _makes_book(rules):
            raise InvalidRules(rules)
        self._rules = dict(sorted(rules, key=lambda pair: pair[0]))

    def names(self):
        """The ascending list of the names."""
        return list(self._rules)

    def rule(self, name):
        """The rule of a scribe."""
        need_one_of(name, self._rules)
        return self._rules[name]

    def changed(self, name, rule):
        """The book in which a scribe has another rule."""
        need_one_of(name, self._rules)
        return _book_with(self, name, rule)

    def with_scribe(self, name, rule):
        """The book with one more scribe."""
        if not is_name(name):
            raise InvalidName(name)
        if name in self._rules:
            raise TakenName(name)
        return _book_with(self, name, rule)

    def without(self, name):
        """The book without a scribe."""
        need_one_of(name, self._rules)
        rules = [(other, rule) for other, rule in self._rules.items() if other != name]
        if not rules or not _makes_book(rules):
            raise StillNeeded(name)
        return Book(rules)

    def __len__(self):
        return len(self._rules)

    def __eq__(self, other):
        return isinstance(other, Book) and self._rules == other._rules


def _is_rule_list(value):
    """Whether an object is a list, not empty, of tuples of different names and rules."""
    if not isinstance(value, list) or not value:
        return False
    if not all([isinstance(pair, tuple) and len(pair) == 2 for pair in value]):
        return False
    if not all([is_name(name) and isinstance(rule, Rule) for name, rule in value]):
        return False
    return len(set([name for name, _ in value])) == len(value)


def _makes_book(rules):
    """Whether all names that stand in some rules have one of these, and no ring is among them."""
    hung = _hung_of(rules)
    for _, rule in rules:
        leaned, hangs = named(rule)
        if not all([name in hung for name in leaned + hangs]):
            return False
    return shortest_ring(hung) is None


def _hung_of(rules):
    return {name: named(rule)[1] for name, rule in rules}


def rules_of(book):
    """The list of the tuples of a name and its rule, in ascending order."""
    return [(name, book.rule(name)) for name in book.names()]


def _book_with(book, name, rule):
    """The book in which a scribe, perhaps a new one, has a rule."""
    if not isinstance(rule, Rule):
        raise InvalidRule(rule)
    rules = [pair for pair in rules_of(book) if pair[0] != name] + [(name, rule)]
    if not _makes_book(rules):
        raise InvalidRule(rule)
    return Book(rules)


def need_book(book):
    """Raises InvalidBook unless an object is a book."""
    if not isinstance(book, Book):
        raise InvalidBook(book)


def _need_like_books(one, other):
    need_book(one)
    need_book(other)
    if one.names() != other.names():
        raise Unlike(other)


def now_ring(rules):
    """The first one of the shortest rings of names of which each hangs on the next one, None if there is none."""
    if not _is_rule_list(rules):
        raise InvalidRules(rules)
    return shortest_ring(_hung_of(rules))


def hours_behind(book, hours):
    """The hours of the next round."""
    need_book(book)
    need_hours(hours, book.names())
    return next_hours(turns_of(rules_of(book)), hours, {})


def flat(book):
    """The book that has the same hours behind, each scribe's rule in the one form of its canonical rows."""
    need_book(book)
    return _book_of_rows(rows_after(book, 1))


def then(one, other):
    """The book of a round of one book, and then a round of the other one."""
    _need_like_books(one, other)
    return _book_of_rows(rows_behind(other, rows_after(one, 1)))


def after(book, many):
    """The book of so many rounds of a book."""
    need_book(book)
    need_count_from(1, many)
    return _book_of_rows(rows_after(book, many))


def rows_behind(book, before):
    """For each scribe the canonical rows of its hour behind a round, given those of the hours of the round before."""
    now = {}
    for name, term in turns_of(rules_of(book)):
        now[name] = canonical_rows(term, before, now)
    return now


def rows_after(book, many):
    """For each scribe the canonical rows of its hour behind so many rounds."""
    found = plain_rows(book.names())
    for _ in range(many):
        found = rows_behind(book, found)
    return found


def farthest_wait(book, many):
    """A number that no wait in a row of some scribe's hour behind so many rounds is beyond, on either side of 0."""
    return many * sum([abs(part[2]) for _, rule in rules_of(book) for _, part in parts(rule)])


def _book_of_rows(found):
    return Book([(name, of_rows(some)) for name, some in found.items()])


def beside(one, other):
    """The book of all scribes of two books."""
    need_book(one)
    need_book(other)
    taken = [name for name in one.names() if name in other.names()]
    if taken:
        raise TakenName(taken[0])
    return Book(rules_of(one) + rules_of(other))


def renamed(book, names):
    """The book in which each scribe that is a key has the name to which it leads."""
    need_book(book)
    if not _is_renaming(names):
        raise InvalidNames(names)
    return Book([(names.get(name, name), _renamed_rule(rule, names)) for name, rule in rules_of(book)])


def _is_renaming(value):
    if not isinstance(value, dict):
        return False
    if not all([is_name(key) and is_name(name) for key, name in value.items()]):
        return False
    return sorted(value) == sorted(list(value.values()))


def _renamed_rule(rule, names):
    return Rule(rebuilt(rule.term(), lambda part: (part[0], names.get(part[1], part[1]), part[2])))


def turned_about(book):
    """The book of the rules read from the other end of time."""
    need_book(book)
    return Book([(name, mirrored(rule)) for name, rule in rules_of(book)])


def alike_books(one, other):
    """Whether two books have the same hours behind for all hours."""
    _need_like_books(one, other)
    return rows_after(one, 1) == rows_after(other, 1)


def parting_after(one, other, many):
    """Any scribe and hours from which on it has unlike hours behind so many rounds, None if there are none."""
    _need_like_books(one, other)
    need_count_from(1, many)
    found = rows_after(one, many)
    others = rows_after(other, many)
    for name in one.names():
        if found[name] != others[name]:
            return (name, hours_parting(found[name], others[name], one.names()))
    return None


def check_parting_after(one, other, many, value):
    """Whether an object is a scribe and hours from which on it has unlike hours behind so many rounds."""
    _need_like_books(one, other)
    need_count_from(1, many)
    if not isinstance(value, tuple) or len(value) != 2 or not is_one_of(value[0], one.names()):
        return False
    name, hours = value
    if not is_just_hours(hours, one.names()):
        return False
    behind = [hours_along(turns_of(rules_of(book)), hours, many)[many][name] for book in [one, other]]
    return behind[0] != behind[1]


def alike_from(one, other, most):
    """The least number of rounds, up to a greatest one, from which on two books have the same hours behind."""
    _need_like_books(one, other)
    need_count_from(1, most)
    found = plain_rows(one.names())
    others = found
    were_alike = False
    for many in range(most + 1):
        found = rows_behind(one, found)
        others = rows_behind(other, others)
        are_alike = found == others
        if were_alike and are_alike:
            return many
        were_alike = are_alike
    return None
