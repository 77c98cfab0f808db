"""Rules: what hour a scribe hands at, told by the hours of others."""

from leafwaits.checks import is_hours, is_name, is_path, need_hours, need_whole
from leafwaits.errors import InvalidHours, InvalidPath, InvalidRule, InvalidRules, InvalidTerm, NotFlat
from leafwaits.terms import copied, is_term, mirrored_term, parts_at, rebuilt, replaced, shifted_term, thinned, told_by


class Rule:
    """A rule that never changes; two are equal exactly if their terms are."""

    def __init__(self, term):
        if not is_term(term):
            raise InvalidTerm(term)
        self._term = copied(term)

    def term(self):
        """The term of the rule, with new lists."""
        return copied(self._term)

    def __eq__(self, other):
        return isinstance(other, Rule) and self._term == other._term


def need_rule(rule):
    """Raises InvalidRule unless an object is a rule."""
    if not isinstance(rule, Rule):
        raise InvalidRule(rule)


def need_flat(rule):
    """Raises InvalidRule unless an object is a rule, then NotFlat unless it is flat."""
    need_rule(rule)
    if named(rule)[1]:
        raise NotFlat(rule)


def told(rule, hours, now=None):
    """The hour that a rule tells at the hours of the round before and at those of this round."""
    need_rule(rule)
    leaned, hung = named(rule)
    need_hours(hours, leaned)
    if not is_hours(now, hung) and (hung or now is not None):
        raise InvalidHours(now)
    return told_by(rule.term(), hours, now)


def named(rule):
    """The ascending lists of the names in parts of the round before, and in parts of this round."""
    need_rule(rule)
    found = [part for _, part in parts(rule)]
    leaned = sorted(set([part[1] for part in found if part[0] == "of"]))
    hung = sorted(set([part[1] for part in found if part[0] == "now"]))
    return (leaned, hung)


def shifted(rule, by):
    """The rule in which each part waits so much more."""
    need_rule(rule)
    need_whole(by)
    return Rule(shifted_term(rule.term(), by))


def mirrored(rule):
    """The rule that tells at hours of the other sign the hour of the other sign."""
    need_rule(rule)
    return Rule(mirrored_term(rule.term()))


def put_in(rule, rules):
    """The rule in which the parts of the round before that tell of a key are replaced by the rule of the key."""
    need_rule(rule)
    if not _is_rule_table(rules):
        raise InvalidRules(rules)
    return Rule(rebuilt(rule.term(), lambda part: _put_in_part(part, rules)))


def _is_rule_table(value):
    if not isinstance(value, dict):
        return False
    return all([is_name(name) and isinstance(rule, Rule) for name, rule in value.items()])


def _put_in_part(part, rules):
    word, name, wait = part
    if word == "now" or name not in rules:
        return part
    return shifted_term(rules[name].term(), wait)


def parts(rule):
    """The list, from left to right, of tuples of the path and the part, for all parts."""
    need_rule(rule)
    return parts_at(rule.term(), ())


def waited(rule, path, wait):
    """The rule in which the part at a path has another wait."""
    need_rule(rule)
    part = _part_at(rule, path)
    if part is None:
        raise InvalidPath(path)
    need_whole(wait)
    return Rule(replaced(rule.term(), path, (part[0], part[1], wait)))


def _part_at(rule, path):
    # True and False equal 1 and 0, so a path is looked up only once it is known to be one.
    if not is_path(path):
        return None
    return dict(parts(rule)).get(path)


def left_out(rule, paths):
    """The rule without the parts at some paths."""
    need_rule(rule)
    if not _is_path_list(rule, paths):
        raise InvalidPath(paths)
    return Rule(thinned(rule.term(), (), {path: True for path in paths}))


def _is_path_list(rule, paths):
    if not isinstance(paths, list) or not all([is_path(path) for path in paths]):
        return False
    there = dict(parts(rule))
    if len(set(paths)) < len(paths) or not all([path in there for path in paths]):
        return False
    return len(paths) < len(there)
