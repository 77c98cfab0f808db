"""Rows: what a flat rule tells at all hours."""

from itertools import combinations

from leafwaits.canon import canonical_rows, least_rows, lies_within, negated, plain_rows, rule_over
from leafwaits.checks import is_hours, is_row, is_row_list, need_hours
from leafwaits.errors import InvalidRows
from leafwaits.gaps import hours_behind_row, hours_for_row, hours_parting, unmet_row
from leafwaits.rules import left_out, mirrored, named, need_flat, parts, told
from leafwaits.terms import replaced

# No name is empty, so this one is never that of a scribe; it comes ahead of all names in a row.
APART = ""


def rows(rule):
    """The ascending list of the canonical rows of a rule."""
    need_flat(rule)
    return canonical_rows(rule.term(), plain_rows(named(rule)[0]), {})


def matters(rule):
    """The ascending list of the names that stand in canonical rows."""
    return sorted(set([name for row in rows(rule) for name, _ in row]))


def columns(rule):
    """The ascending list of the canonical columns of a rule."""
    need_flat(rule)
    return negated(rows(mirrored(rule)))


def of_rows(some):
    """The rule, in one form, that tells the least of what some rows tell."""
    if not is_row_list(some):
        raise InvalidRows(some)
    return rule_over("first", "last", least_rows(some))


def of_columns(some):
    """The rule, in one form, that tells the greatest of what some columns tell."""
    if not is_row_list(some):
        raise InvalidRows(some)
    return rule_over("last", "first", negated(least_rows(negated(some))))


def never_behind(one, other):
    """Whether at all hours one rule tells at most what another one tells."""
    need_flat(one)
    need_flat(other)
    return unmet_row(rows(one), rows(other)) is None


def alike(one, other):
    """Whether two rules tell the same at all hours."""
    need_flat(one)
    need_flat(other)
    return rows(one) == rows(other)


def parting(one, other):
    """Any hours at which two rules do not tell the same, None if there are none."""
    need_flat(one)
    need_flat(other)
    return hours_parting(rows(one), rows(other), _names_of(one, other))


def check_parting(one, other, value):
    """Whether an object is hours at which two rules do not tell the same."""
    need_flat(one)
    need_flat(other)
    return is_hours(value, _names_of(one, other)) and told(one, value) != told(other, value)


def reasons(one, other):
    """Why one rule is never behind another one, or hours at which it is."""
    need_flat(one)
    need_flat(other)
    own = rows(one)
    others = rows(other)
    hours = hours_behind_row(own, others, _names_of(one, other))
    if hours is not None:
        return ("behind", hours)
    return ("never", [(row, [inner for inner in own if lies_within(inner, row)][0]) for row in others])


def is_reasons(one, other, value):
    """Whether an object is what tells why one rule is never behind another one, or that it is."""
    need_flat(one)
    need_flat(other)
    if not isinstance(value, tuple) or len(value) != 2:
        return False
    if value[0] == "behind":
        return is_hours(value[1], _names_of(one, other)) and told(one, value[1]) > told(other, value[1])
    return value[0] == "never" and _are_pairs(rows(one), rows(other), value[1])


def telling(rule, hours):
    """The ascending list of the canonical rows that tell at some hours just the hour that the rule tells."""
    need_flat(rule)
    need_hours(hours, named(rule)[0])
    hour = told(rule, hours)
    return [row for row in rows(rule) if max([hours[name] + wait for name, wait in row]) == hour]


def alone(rule, row):
    """Any hours at which a canonical row tells the hour of the rule, and each other canonical row more."""
    need_flat(rule)
    known = rows(rule)
    if not is_row(row) or row not in known:
        raise InvalidRows(row)
    return hours_for_row(row, [other for other in known if other != row], named(rule)[0])


def slack(rule):
    """For each part how much less and how much more it could wait without any change of what the rule tells."""
    need_flat(rule)
    known = rows(rule)
    return [_slack_of(rule, known, path, part) for path, part in parts(rule)]


def lean(rule):
    """Any rule with as few parts as can be that is left of a rule, and tells the same at all hours."""
    need_flat(rule)
    known = rows(rule)
    paths = [path for path, _ in parts(rule)]
    # Each name that matters needs a part, so no more can go.
    for many in range(len(paths) - len(matters(rule)), 0, -1):
        for gone in combinations(paths, many):
            thin = left_out(rule, list(gone))
            if rows(thin) == known:
                return thin
    return rule


def _names_of(one, other):
    return sorted(set(named(one)[0] + named(other)[0]))


def _are_pairs(some, others, value):
    """Whether an object is a list of each of the other rows in order, and one of some rows that lies within it."""
    if not isinstance(value, list) or len(value) != len(others):
        return False
    for pair, row in zip(value, others):
        if not isinstance(pair, tuple) or len(pair) != 2 or not all([is_row(each) for each in pair]):
            return False
        if pair[0] != row or pair[1] not in some or not lies_within(pair[1], row):
            return False
    return True


def _slack_of(rule, known, path, part):
    """The path of a part, how much less and how much more it could wait, each of these None if there is no end.

    The part gets a name of its own: then the rows that have this name are those that go by the part.
    """
    _, name, wait = part
    term = replaced(rule.term(), path, ("of", APART, 0))
    found = canonical_rows(term, plain_rows(named(rule)[0] + [APART]), {})
    bound = [row[1:] for row in found if row[0][0] == APART]
    free = [row for row in found if row[0][0] != APART]
    lows = [_lowest(rest, known, name) for rest in bound]
    highs = [_highest(row, free, name) for row in known]
    less = min([wait - low for low in lows if low is not None], default=None)
    more = min([high - wait for high in highs if high is not None], default=None)
    return (path, less, more)


def _lowest(rest, known, name):
    """The least wait with a name that keeps some canonical row within a row of some other entries; None if any does."""
    near = [row for row in known if lies_within([entry for entry in row if entry[0] != name], rest)]
    if any([lies_within(row, rest) for row in near]):
        return None
    return min([dict(row)[name] for row in near])


def _highest(row, free, name):
    """The greatest wait with a name that keeps some row of the rule within a canonical one; None if any does."""
    if any([lies_within(inner, row) for inner in free]):
        return None
    return dict(row)[name]
