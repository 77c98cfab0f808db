"""Points 120 to 129: what was seen of one scribe, held against all rules that there are of few names and short waits."""

import functools
import itertools
import unittest

from leafwaits.books import Book, flat
from leafwaits.errors import Clash, InvalidBook, InvalidCount, InvalidHours, InvalidNames, InvalidRule, InvalidSights
from leafwaits.errors import InvalidWhole, NotFlat
from leafwaits.rows import alike, columns, matters, of_columns, of_rows, rows
from leafwaits.rules import Rule, told
from leafwaits.seen import Sights, after_rounds, check_clash, clash, earliest_at, earliest_columns, fits, last_latest
from leafwaits.seen import last_moments, latest_at, latest_rows, lots_seen, lots_stop, lots_wrong, moments, must_see
from leafwaits.seen import needless, rule_fits, rule_with, same_sights, still_fit, telling_hours, unlike_rule, watched
from support import any_objects, column_hour, random_book, random_hours, row_hour, rounds_by_definition, seeded, within

FAR = 10 ** 4


@functools.lru_cache(None)
def all_rules(names, waits):
    """The canonical rows of all rules whose canonical rows have just such names and waits."""
    entries = [[None] + list(waits)] * len(names)
    some = [{name: wait for name, wait in zip(names, chosen) if wait is not None}
            for chosen in itertools.product(*entries)]
    some = [row for row in some if row]
    apart = [[not within(row, other) and not within(other, row) for other in some] for row in some]
    found, edge = [], [[at] for at in range(len(some))]
    while edge:
        found.extend(edge)
        edge = [lot + [at] for lot in edge for at in range(lot[-1] + 1, len(some)) if all(apart[at][in_] for in_ in lot)]
    return [sorted(sorted(some[at].items()) for at in lot) for lot in found]


def hour_of(known, hours):
    return min(row_hour(row, hours) for row in known)


def in_span(hour, low, high):
    return (low is None or low <= hour) and (high is None or hour <= high)


def fitting(sights, waits=None):
    """All rules that fit, as lists of canonical rows."""
    waits = tuple(range(sights.most() + 1)) if waits is None else waits
    return [known for known in all_rules(tuple(sights.names()), waits)
            if all(in_span(hour_of(known, hours), low, high) for hours, low, high in sights.rows())]


def grid(names, values=range(-4, 5)):
    return [dict(zip(names, chosen)) for chosen in itertools.product(values, repeat=len(names))]


def random_sights(rng, names=("a", "b"), most=2, many=None, spans=None):
    """Random sights; half of them seen of one rule, so that some rule surely fits them."""
    names = list(names)
    rule = rng.choice(all_rules(tuple(names), tuple(range(most + 1))))
    seen = []
    for _ in range(rng.randint(0, 3) if many is None else many):
        hours = {name: rng.randint(-3, 3) for name in names}
        hour = hour_of(rule, hours) if rng.random() < 0.8 else rng.randint(-3, 5)
        wide = rng.choice(spans or [(0, 0), (0, 0), (1, 0), (0, 1), (None, 0), (0, None), (None, None), (2, 2)])
        seen.append((hours, None if wide[0] is None else hour - wide[0], None if wide[1] is None else hour + wide[1]))
    return Sights(names, most, seen)


def all_cases(number, cases, fit=None, **kinds):
    rng = seeded(number)
    while cases:
        sights = random_sights(rng, **kinds)
        known = fitting(sights)
        if fit is None or bool(known) is fit:
            cases -= 1
            yield rng, sights, known


def lots_of(things, is_enough):
    found = []
    for size in range(len(things) + 1):
        for lot in itertools.combinations(things, size):
            if is_enough(lot) and not any(set(less) <= set(lot) for less in found):
                found.append(list(lot))
    return sorted(found)


def stretches(values):
    """The longest stretches of some whole numbers."""
    found = []
    for value in sorted(values):
        if found and value == found[-1][1] + 1:
            found[-1] = (found[-1][0], value)
        else:
            found.append((value, value))
    return found


class SightsTest(unittest.TestCase):
    def test_what_they_tell(self):
        hours, names = {"b": 1, "a": 0}, ["a", "b"]
        given = [(hours, 2, None), ({"a": 10 ** 29, "b": -5}, None, None)]
        sights = Sights(names, 10 ** 29, given)
        hours["a"] = 99
        given.append(None)
        names.append("zed")
        right = [({"a": 0, "b": 1}, 2, None), ({"a": 10 ** 29, "b": -5}, None, None)]
        self.assertEqual([sights.names(), sights.most(), sights.rows(), len(sights)], [["a", "b"], 10 ** 29, right, 2])
        sights.names().append("c")
        sights.rows().pop()
        sights.rows()[0][0]["a"] = 7
        self.assertEqual([sights.names(), sights.rows()], [["a", "b"], right])
        self.assertIsNone(Sights(["a"], None, []).most())

    def test_with_row_and_without(self):
        one, two = ({"a": 1}, 2, 3), ({"a": 2}, None, 3)
        sights = Sights(["a"], 5, [one])
        more = sights.with_row(two)
        self.assertEqual([more.rows(), len(sights), more.without(0).rows(), more.without(1) == sights],
                         [[one, two], 1, [two], True])
        two[0]["a"] = 8
        self.assertEqual(more.rows()[1], ({"a": 2}, None, 3))
        for value in [-1, 2, True, None, "0", 10 ** 30]:
            with self.assertRaises(InvalidCount) as caught:
                more.without(at=value)
            self.assertIs(caught.exception.value, value)
        with self.assertRaises(InvalidCount):
            Sights(["a"], 5, []).without(0)

    def test_wrong_rows(self):
        wrong = any_objects() + [({"a": 1}, 2), ({"a": 1}, 2, 3, 4), [{"a": 1}, 2, 3], ({}, 2, 3), ({"a": 1, "b": 1}, 2, 3),
                                 ({"b": 1}, 2, 3), ({"a": True}, 2, 3), ({"a": 1}, 3, 2), ({"a": 1}, True, 3),
                                 ({"a": 1}, None, "3"), (None, None, None)]
        for value in wrong:
            with self.assertRaises(InvalidSights) as caught:
                Sights(["a"], None, []).with_row(value)
            self.assertIs(caught.exception.value, value)
            for some in [[value], [({"a": 1}, 2, 3), value], value]:
                if some != []:
                    with self.assertRaises(InvalidSights) as caught:
                        Sights(["a"], None, some)
                    self.assertIs(caught.exception.value, some)

    def test_wrong_names_and_mosts(self):
        for value in [None, [], ("a",), ["b", "a"], ["a", "a"], ["A"], [1], "a", {"a": 1}, [None]]:
            with self.assertRaises(InvalidNames) as caught:
                Sights(value, -1, None)
            self.assertIs(caught.exception.value, value)
        for value in [-1, True, "1", [], (1,)]:
            with self.assertRaises(InvalidCount) as caught:
                Sights(["a"], value, None)
            self.assertIs(caught.exception.value, value)

    def test_equal(self):
        row, other = ({"a": 1, "b": 2}, 2, 3), ({"b": 2, "a": 1}, 2, 3)
        sights = Sights(["a", "b"], 1, [row])
        self.assertEqual(sights, Sights(names=["a", "b"], most=1, rows=[other]))
        for unlike in [Sights(["a", "b"], 2, [row]), Sights(["a", "b"], None, [row]), Sights(["a", "b"], 1, []),
                       Sights(["a", "b"], 1, [row, row]), Sights(["a", "b"], 1, [({"a": 1, "b": 2}, 2, None)])]:
            self.assertNotEqual(sights, unlike)
        for value in any_objects() + [(["a", "b"], 1, [row])]:
            self.assertIs(sights == value, False)
        self.assertNotEqual(Sights(["a"], 1, []), Sights(["b"], 1, []))


class FitsTest(unittest.TestCase):
    def test_against_all_rules(self):
        answers = set()
        for _, sights, known in all_cases(1, 300):
            answers.add(bool(known))
            self.assertIs(fits(sights), bool(known))
            found = clash(sights)
            self.assertEqual(found is None, bool(known))
            for value in itertools.product(range(-1, 4), repeat=2):
                self.assertIs(check_clash(sights, value), self.is_clash(sights, value))
            self.assertIs(check_clash(sights, found), not known)
        self.assertEqual(answers, {True, False})

    def is_clash(self, sights, value):
        """By the words of point 121."""
        seen = sights.rows()
        if not all(0 <= at < len(seen) for at in value):
            return False
        (hours, _, high), (others, low, _) = seen[value[0]], seen[value[1]]
        return not any((high is None or wait <= high - hours[name]) and (low is None or wait >= low - others[name])
                       for name in sights.names() for wait in range(sights.most() + 1))

    def test_three_names(self):
        for _, sights, known in all_cases(2, 40, names="abc", most=1):
            self.assertIs(fits(sights), bool(known))

    def test_checks_of_other_objects(self):
        sights = Sights(["a"], 1, [({"a": 0}, 5, 5), ({"a": 0}, 1, 1)])
        for value in any_objects() + [(0,), (0, 0, 0), (False, 0), [0, 0], (1, 1), (0, 2), (2, 2), (-2, -2), (0, -2)]:
            self.assertIs(check_clash(sights, value), repr(value) == "(0, 0)")
        self.assertTrue(check_clash(sights, (0, 0)) and check_clash(sights, (1, 0)))

    def test_waits_of_any_sign(self):
        rng = seeded(3)
        waits = tuple(range(-2, 3))
        for _ in range(60):
            sights = random_sights(rng, ["a"])
            sights = Sights(["a"], None, [(hours, low, high) for hours, low, high in sights.rows()])
            known = [wait for wait in range(-20, 21)
                     if all(in_span(hours["a"] + wait, low, high) for hours, low, high in sights.rows())]
            self.assertIs(fits(sights), bool(known))
            if not known:
                continue
            self.assertEqual(latest_at(sights, {"a": 7}), None if known[-1] == 20 else 7 + known[-1])
            self.assertEqual(earliest_at(sights, {"a": 7}), None if known[0] == -20 else 7 + known[0])
        two = Sights(["a", "b"], None, [({"a": 0, "b": 1}, 2, 2), ({"a": 3, "b": -1}, None, 4)])
        for known in fitting(two, waits):
            self.assertTrue(rule_fits(two, of_rows(known)))
            self.assertTrue(all(hour_of(known, hours) <= latest_at(two, hours) for hours in grid(["a", "b"])))
            self.assertTrue(all(hour_of(known, hours) >= earliest_at(two, hours) for hours in grid(["a", "b"])))
        self.assertTrue(rule_fits(two, of_rows(latest_rows(two))) and rule_fits(two, of_columns(earliest_columns(two))))


class OutermostTest(unittest.TestCase):
    def test_against_all_rules(self):
        for rng, sights, known in all_cases(4, 100, True):
            for hours in grid(sights.names()):
                told_of = [hour_of(some, hours) for some in known]
                self.assertEqual(latest_at(sights, dict(hours, zed=3)), max(told_of))
                self.assertEqual(earliest_at(sights, hours), min(told_of))
            latest, earliest = of_rows(latest_rows(sights)), of_columns(earliest_columns(sights))
            self.assertEqual([rows(latest), columns(earliest)], [latest_rows(sights), earliest_columns(sights)])
            self.assertTrue(rows(latest) in known and rows(earliest) in known)

    def test_no_rows(self):
        open_one = Sights(["a", "b"], 4, [])
        self.assertEqual(latest_rows(open_one), [[("a", 4), ("b", 4)]])
        self.assertEqual(earliest_columns(open_one), [[("a", 0), ("b", 0)]])
        free = Sights(["a", "b"], None, [({"a": 0, "b": 0}, None, None)])
        self.assertEqual([latest_rows(free), earliest_columns(free)], [[], []])
        self.assertEqual([latest_at(free, {"a": 1, "b": 1}), earliest_at(free, {"a": 1, "b": 1})], [None, None])
        high = free.with_row(({"a": 0, "b": 1}, None, 5))
        self.assertEqual([latest_rows(high), earliest_columns(high)], [[[("a", 5), ("b", 4)]], []])
        low = free.with_row(({"a": 0, "b": 1}, 5, None))
        self.assertEqual([latest_rows(low), earliest_columns(low)], [[], [[("a", 5), ("b", 4)]]])
        self.assertEqual([latest_at(low, {"a": 0, "b": 0}), earliest_at(low, {"a": 0, "b": 0})], [None, 4])

    def test_rule_fits(self):
        answers = []
        for rng, sights, known in all_cases(5, 60):
            for some in rng.sample(all_rules(("a", "b"), (-1, 0, 1, 2, 3)), 40):
                rule = of_rows(some)
                answers.append(rule_fits(sights, rule))
                self.assertIs(answers[-1], rows(rule) in known)
        self.assertEqual(set(answers), {True, False})

    def test_rule_fits_by_canonical_rows(self):
        sights = Sights(["a", "b"], 1, [({"a": 0, "b": 5}, 1, 1)])
        idle = Rule(("first", [("of", "a", 1), ("last", [("of", "a", 1), ("of", "zed", 77)])]))
        self.assertTrue(rule_fits(sights, idle))
        self.assertFalse(rule_fits(sights, Rule(("last", [("of", "a", 1), ("of", "zed", -77)]))))
        self.assertFalse(rule_fits(sights, Rule(("of", "a", 2))))
        with self.assertRaises(NotFlat):
            rule_fits(sights, Rule(("now", "a", 1)))
        with self.assertRaises(InvalidRule):
            rule_fits(sights.with_row(({"a": 0, "b": 0}, 9, 9)), ("of", "a", 1))


class MomentsTest(unittest.TestCase):
    def test_against_all_rules(self):
        for rng, sights, known in all_cases(6, 60, True):
            for hours in [random_hours(rng, sights.names(), 6) for _ in range(6)]:
                told_of = {hour_of(some, hours) for some in known}
                self.assertEqual(moments(sights, dict(hours, zed=9)), stretches(told_of))
                for hour in range(-8, 10):
                    rule = rule_with(sights, hours, hour)
                    self.assertEqual(rule is not None, hour in told_of)
                    if rule is not None:
                        self.assertEqual(told(rule, hours), hour)
                        self.assertTrue(rule_fits(sights, rule))

    def test_three_names(self):
        for rng, sights, known in all_cases(7, 12, True, names="abc", most=1):
            hours = random_hours(rng, sights.names(), 5)
            told_of = {hour_of(some, hours) for some in known}
            self.assertEqual(moments(sights, hours), stretches(told_of))
            for hour in range(-7, 8):
                rule = rule_with(sights, hours, hour)
                self.assertEqual(rule is not None, hour in told_of)
                self.assertTrue(rule is None or (told(rule, hours) == hour and rule_fits(sights, rule)))

    def test_stretches_that_touch_are_one(self):
        self.assertEqual(moments(Sights(["a", "b"], 3, []), {"a": 0, "b": 4}), [(0, 7)])
        self.assertEqual(moments(Sights(["a", "b"], 3, []), {"a": 0, "b": 5}), [(0, 3), (5, 8)])
        self.assertEqual(moments(Sights(["a", "b"], 0, []), {"a": 0, "b": 1}), [(0, 1)])
        far = {"a": 0, "b": 10, "c": 13, "d": 20, "e": 22}
        self.assertEqual(moments(Sights(list(far), 2, []), far), [(0, 2), (10, 15), (20, 24)])
        self.assertEqual(moments(Sights(list(far), 9, []), far), [(0, 31)])
        self.assertEqual(moments(Sights(["a", "b"], 10 ** 29, []), {"a": 0, "b": 10 ** 29 + 1}), [(0, 2 * 10 ** 29 + 1)])

    def test_waits_of_any_sign(self):
        free = Sights(["a", "b"], None, [])
        self.assertEqual(moments(free, {"a": 0, "b": 9}), [(None, None)])
        self.assertEqual(moments(free.with_row(({"a": 1, "b": 2}, 3, None)), {"a": 0, "b": 9}), [(2, None)])
        self.assertEqual(moments(free.with_row(({"a": 1, "b": 2}, None, 3)), {"a": 0, "b": 9}), [(None, 10)])
        for sights in [free, free.with_row(({"a": 1, "b": 2}, 3, None)), free.with_row(({"a": 1, "b": 2}, None, 3)),
                       free.with_row(({"a": 1, "b": 2}, 3, 3))]:
            for hour in range(-12, 13):
                rule = rule_with(sights, {"a": 0, "b": 9, "c": 1}, hour)
                [(low, high)] = moments(sights, {"a": 0, "b": 9})
                self.assertEqual(rule is not None, in_span(hour, low, high))
                if rule is not None:
                    self.assertEqual([told(rule, {"a": 0, "b": 9}), rule_fits(sights, rule)], [hour, True])


class AfterRoundsTest(unittest.TestCase):
    def test_against_all_books(self):
        rng = seeded(8)
        for _ in range(12):
            seen = {}
            while len(seen) < 2:
                sights = random_sights(rng, many=rng.randint(1, 3))
                if 0 < len(fitting(sights)) < 14:
                    seen["ba"[len(seen)]] = sights
            hours, many = random_hours(rng, "ab", 4), rng.randint(0, 3)
            behind = [rounds_by_definition(Book([("a", of_rows(one)), ("b", of_rows(two))]), hours, many)
                      for one in fitting(seen["a"]) for two in fitting(seen["b"])]
            right = [(name, min(now[name] for now in behind), max(now[name] for now in behind)) for name in "ab"]
            self.assertEqual(after_rounds(seen, hours, many), right)

    def test_no_least_and_no_greatest(self):
        free = Sights(["a", "b"], None, [])
        low = Sights(["b"], None, [({"b": 0}, 1, None)])
        tied = Sights(["c"], None, [({"c": 0}, 1, 1)])
        hours = {"a": 0, "b": 10, "c": 20}
        seen = {"c": tied, "b": low, "a": free}
        self.assertEqual(after_rounds(seen, hours, 0), [("a", 0, 0), ("b", 10, 10), ("c", 20, 20)])
        self.assertEqual(after_rounds(seen, hours, 3), [("a", None, None), ("b", 13, None), ("c", 23, 23)])
        first = Sights(["a", "c"], None, [({"a": 0, "c": 0}, 2, 2)])
        self.assertEqual(after_rounds(dict(seen, b=first), hours, 1)[1], ("b", 2, 22))
        self.assertEqual(after_rounds(dict(seen, b=first), hours, 2)[1], ("b", None, None))

    def test_errors(self):
        good, clashing = Sights(["a"], 1, []), Sights(["a"], 1, [({"a": 0}, 5, 5)])
        for value in [None, {}, [("a", good)], {"A": good}, {"a": None}, {"b": good}, {1: good}, {"a": Sights(["a", "b"], 1, [])},
                      {"a": good, "b": None}, {"a": good, "B": good}, {"a": good, "b": Sights(["a", "c"], 1, [])}]:
            with self.assertRaises(InvalidSights) as caught:
                after_rounds(value, None, None)
            self.assertIs(caught.exception.value, value)
        late = clashing.with_row(({"a": 0}, 7, 7))
        with self.assertRaises(Clash) as caught:
            after_rounds({"c": late, "b": clashing, "a": good}, None, None)
        self.assertIs(caught.exception.value, clashing)
        for value in [None, {}, {"a": True}, {"a": 1, "b": 2}, {"b": 2}]:
            with self.assertRaises(InvalidHours) as caught:
                after_rounds({"a": good}, value, None)
            self.assertIs(caught.exception.value, value)
        for value in [-1, True, None]:
            with self.assertRaises(InvalidCount) as caught:
                after_rounds({"a": good}, {"a": 1}, value)
            self.assertIs(caught.exception.value, value)


class LotsTest(unittest.TestCase):
    def check_lots(self, sights, known):
        names = sights.names()
        there = [{name for row in some for name, _ in row} for some in known]
        self.assertEqual(must_see(sights), [name for name in names if all(name in lot for lot in there)])
        seen = lots_of(names, lambda lot: any(had <= set(lot) for had in there))
        stop = lots_of(names, lambda lot: not any(not had & set(lot) for had in there))
        self.assertEqual([lots_seen(sights), lots_stop(sights)], [seen, stop])
        self.assertEqual(seen, lots_of(names, lambda lot: all(set(lot) & set(other) for other in stop)))
        self.assertEqual(stop, lots_of(names, lambda lot: all(set(lot) & set(other) for other in seen)))

    def test_against_all_rules(self):
        for _, sights, known in all_cases(9, 120, True):
            self.check_lots(sights, known)
        for _, sights, known in all_cases(10, 25, True, names="abc", most=1):
            self.check_lots(sights, known)

    def test_lots_stand_in_order(self):
        # Of two that are least, the longer one comes first here.
        lots = [["a", "c"], ["b"]]
        seen = Sights(["a", "b", "c"], 0, [({"a": 0, "b": 0, "c": 9}, None, 0), ({"a": 9, "b": 0, "c": 0}, None, 0)])
        self.assertEqual([lots_seen(seen), lots_stop(seen)], [lots, [["a", "b"], ["b", "c"]]])
        stop = Sights(["a", "b", "c"], 0, [({"a": 0, "b": 9, "c": 0}, None, 0), ({"a": 9, "b": 0, "c": 9}, None, 0)])
        self.assertEqual([lots_seen(stop), lots_stop(stop)], [[["a", "b"], ["b", "c"]], lots])

    def test_no_rows(self):
        for most in [0, 3, None]:
            sights = Sights(["a", "b", "c"], most, [])
            self.assertEqual([lots_seen(sights), lots_stop(sights), must_see(sights)],
                             [[["a"], ["b"], ["c"]], [["a", "b", "c"]], []])
        self.assertEqual([lots_stop(Sights(["a"], 1, [])), must_see(Sights(["a"], 1, []))], [[["a"]], ["a"]])


class SameSightsTest(unittest.TestCase):
    def check_same(self, one, other, known, others):
        same = known == others
        self.assertIs(same_sights(one, other), same)
        rule = unlike_rule(one, other)
        self.assertEqual(rule is None, same)
        if not same:
            self.assertNotEqual(rows(rule) in known, rows(rule) in others)
            self.assertNotEqual(rule_fits(one, rule), rule_fits(other, rule))
        return same

    def test_against_all_rules(self):
        answers = []
        for rng, one, known in all_cases(11, 200):
            other = random_sights(rng) if rng.random() < 0.5 else one.with_row(random_sights(rng, many=1).rows()[0])
            answers.append(self.check_same(one, other, known, fitting(other)))
            self.check_same(other, one, fitting(other), known)
        self.assertEqual(set(answers), {True, False})

    def test_three_names(self):
        for rng, one, known in all_cases(12, 20, names="abc", most=1):
            other = random_sights(rng, "abc", 1)
            self.check_same(one, other, known, fitting(other))

    def test_waits_of_any_sign(self):
        rng = seeded(13)
        spans = [(None, 0), (0, None), (0, 0), (None, None)]
        made = [random_sights(rng, ["a", "b"], 2, rng.randint(0, 2), spans) for _ in range(25)]
        made = [Sights(["a", "b"], None, sights.rows()) for sights in made]
        for one in made:
            for other in made:
                rule = unlike_rule(one, other)
                self.assertEqual(same_sights(one, other), rule is None)
                if rule is not None:
                    self.assertNotEqual(rule_fits(one, rule), rule_fits(other, rule))
                elif fits(one):
                    self.assertEqual([latest_rows(one), earliest_columns(one)], [latest_rows(other), earliest_columns(other)])

    def test_needless(self):
        for _, sights, known in all_cases(14, 120, True):
            right = [at for at in range(len(sights)) if fitting(sights.without(at)) == known]
            self.assertEqual(needless(sights), right)
        row = ({"a": 0}, 1, 1)
        self.assertEqual([needless(Sights(["a"], 3, [row])), needless(Sights(["a"], 3, [row, row]))], [[], [0, 1]])

    def test_sights_that_clash_are_the_same(self):
        one, other = Sights(["a"], 1, [({"a": 0}, 5, 5)]), Sights(["a"], 1, [({"a": 0}, 7, 9)])
        self.assertTrue(same_sights(one, other))
        self.assertIsNone(unlike_rule(one, other))
        open_one = Sights(["a"], 1, [])
        self.assertTrue(rule_fits(open_one, unlike_rule(one, open_one)))

    def test_unlike_names_or_mosts(self):
        one = Sights(["a"], 1, [])
        for call in [same_sights, unlike_rule]:
            for other in [Sights(["b"], 1, []), Sights(["a", "b"], 1, []), Sights(["a"], 2, []), Sights(["a"], None, []), None]:
                with self.assertRaises(InvalidSights) as caught:
                    call(one, other)
                self.assertIs(caught.exception.value, other)


class WrongRowsTest(unittest.TestCase):
    def test_telling_hours(self):
        answers = set()
        for _, sights, known in all_cases(15, 150, True):
            hours = telling_hours(sights)
            answers.add(hours is None)
            self.assertEqual(hours is None, len(known) == 1)
            if hours is not None:
                self.assertEqual(list(hours), sights.names())
                self.assertGreater(len({hour_of(some, hours) for some in known}), 1)
        self.assertEqual(answers, {True, False})
        for sights in [Sights(["a"], None, []), Sights(["a"], None, [({"a": 0}, 0, None)]), Sights(["a"], None, [({"a": 0}, None, 0)])]:
            self.assertEqual(list(telling_hours(sights)), ["a"])
        self.assertIsNone(telling_hours(Sights(["a"], None, [({"a": 3}, 0, 0)])))

    def test_still_fit_and_lots_wrong(self):
        clashing = 0
        for rng, sights, known in all_cases(16, 80, many=5):
            seen = sights.rows()
            prefixes = [bool(fitting(Sights(["a", "b"], 2, seen[:many]))) for many in range(len(seen) + 1)]
            self.assertEqual(still_fit(sights), max(many for many, fit in enumerate(prefixes) if fit))
            right = lots_of(range(len(seen)), lambda lot: bool(fitting(
                Sights(["a", "b"], 2, [row for at, row in enumerate(seen) if at not in lot]))))
            self.assertEqual(lots_wrong(sights), right)
            self.assertEqual(right == [[]], bool(known))
            clashing += not known
        self.assertGreater(clashing, 20)

    def test_no_rows(self):
        self.assertEqual([still_fit(Sights(["a"], 1, [])), lots_wrong(Sights(["a"], 1, []))], [0, [[]]])
        bad = Sights(["a"], 1, [({"a": 0}, 5, 5)])
        self.assertEqual([still_fit(bad), lots_wrong(bad)], [0, [[0]]])


class WatchedTest(unittest.TestCase):
    def test_rules_of_the_flat_book_fit(self):
        rng = seeded(17)
        for _ in range(30):
            book = random_book(rng, "abc", 4, 3)
            hours, many = random_hours(rng, "abc", 6), rng.randint(0, 4)
            found = watched(book, dict(hours, zed=1), many, None)
            self.assertEqual(list(found), book.names())
            for name, sights in found.items():
                self.assertEqual([sights.names(), sights.most(), len(sights)], [["a", "b", "c"], None, many])
                for at, (before, low, high) in enumerate(sights.rows()):
                    self.assertEqual(before, rounds_by_definition(book, hours, at))
                    self.assertEqual([low, high], [rounds_by_definition(book, hours, at + 1)[name]] * 2)
                self.assertTrue(rule_fits(sights, flat(book).rule(name)))
            self.assertEqual(watched(book, hours, many, 4)["a"].most(), 4)

    def test_errors(self):
        book = Book([("a", Rule(("of", "a", 2)))])
        with self.assertRaises(InvalidBook):
            watched(None, None, None, -1)
        with self.assertRaises(InvalidHours):
            watched(book, {}, None, -1)
        for value in [-1, 9, None, True, "1"]:
            with self.assertRaises(InvalidCount) as caught:
                watched(book, {"a": 1}, value, -1)
            self.assertIs(caught.exception.value, value)
        for value in [-1, True, "1", []]:
            with self.assertRaises(InvalidCount) as caught:
                watched(book, {"a": 1}, 8, value)
            self.assertIs(caught.exception.value, value)
        self.assertEqual(watched(book, {"a": 1}, 0, 0), {"a": Sights(["a"], 0, [])})


class LastOfTest(unittest.TestCase):
    def check_last(self, rng, sights):
        known = [some[0] for some in fitting(sights) if len(some) == 1]
        row = last_latest(sights)
        self.assertEqual(row is None, not known)
        if row is not None:
            self.assertIn(row, known)
            self.assertTrue(all(row_hour(other, hours) <= row_hour(row, hours) for other in known
                                for hours in grid(sights.names(), [-9, 0, 9])))
        for hours in [random_hours(rng, sights.names(), 6) for _ in range(5)]:
            told_of = {row_hour(other, hours) for other in known}
            self.assertEqual(last_moments(sights, dict(hours, zed=0)), stretches(told_of))
        return bool(known)

    def test_against_all_rules(self):
        answers = [self.check_last(rng, sights) for rng, sights, _ in all_cases(18, 200, spans=[(0, 0)])]
        self.assertEqual(set(answers), {True, False})
        for rng, sights, _ in all_cases(19, 25, names="abc", most=1, spans=[(0, 0)]):
            self.check_last(rng, sights)

    def test_no_rows_and_rows_that_clash(self):
        self.assertEqual(last_latest(Sights(["a", "b"], 4, [])), [("a", 4), ("b", 4)])
        self.assertEqual(last_moments(Sights(["a", "b"], 1, []), {"a": 0, "b": 9}), [(0, 1), (9, 10)])
        clashing = Sights(["a"], 4, [({"a": 0}, 9, 9)])
        self.assertEqual([last_latest(clashing), last_moments(clashing, {"a": 1})], [None, []])

    def test_other_sights(self):
        exact = ({"a": 0}, 1, 1)
        for sights in [Sights(["a"], None, []), Sights(["a"], None, [exact]), Sights(["a"], 3, [exact, ({"a": 0}, 1, 2)]),
                       Sights(["a"], 3, [({"a": 0}, None, None)]), Sights(["a"], 3, [({"a": 0}, 1, None)]), None, []]:
            for call, others in [(last_latest, []), (last_moments, [None])]:
                with self.assertRaises(InvalidSights) as caught:
                    call(sights, *others)
                self.assertIs(caught.exception.value, sights)
        for value in [None, {}, {"a": True}]:
            with self.assertRaises(InvalidHours) as caught:
                last_moments(Sights(["a"], 3, [exact]), value)
            self.assertIs(caught.exception.value, value)


class ClashTest(unittest.TestCase):
    CLASHING = Sights(["a"], 1, [({"a": 0}, 5, 5)])

    def test_ahead_of_later_arguments(self):
        calls = [(latest_rows, []), (earliest_columns, []), (latest_at, [None]), (earliest_at, [None]), (moments, [None]),
                 (rule_with, [None, None]), (must_see, []), (lots_seen, []), (lots_stop, []), (needless, []),
                 (telling_hours, [])]
        for call, others in calls:
            with self.assertRaises(Clash) as caught:
                call(self.CLASHING, *others)
            self.assertIs(caught.exception.value, self.CLASHING)
            with self.assertRaises(InvalidSights):
                call(None, *others)

    def test_none_at_the_others(self):
        self.assertEqual([fits(self.CLASHING), still_fit(self.CLASHING), lots_wrong(self.CLASHING)], [False, 0, [[0]]])
        self.assertFalse(rule_fits(self.CLASHING, Rule(("of", "a", 1))))
        self.assertTrue(same_sights(self.CLASHING, self.CLASHING))

    def test_hours_and_hour_behind_sights(self):
        good = Sights(["a", "b"], 1, [])
        for call, others in [(latest_at, []), (earliest_at, []), (moments, []), (rule_with, [None])]:
            for value in [None, {}, {"a": 1}, {"a": 1, "b": True}, {"a": 1, "b": 1, 3: 3}]:
                with self.assertRaises(InvalidHours) as caught:
                    call(good, value, *others)
                self.assertIs(caught.exception.value, value)
        for value in [None, True, "1"]:
            with self.assertRaises(InvalidWhole) as caught:
                rule_with(good, {"a": 1, "b": 2, "zed": 3}, value)
            self.assertIs(caught.exception.value, value)


class AgreementTest(unittest.TestCase):
    def test_rules_that_fit_lie_between_two(self):
        for _, sights, known in all_cases(20, 25, True):
            latest, earliest = of_rows(latest_rows(sights)), of_columns(earliest_columns(sights))
            between = [some for some in all_rules(("a", "b"), (0, 1, 2))
                       if all(told(earliest, hours) <= hour_of(some, hours) <= told(latest, hours)
                              for hours in grid(["a", "b"], range(-2, 3)))]
            self.assertEqual(between, known)
            self.assertTrue(all(column_hour(column, {"a": 1, "b": 2}) <= told(latest, {"a": 1, "b": 2})
                                for column in earliest_columns(sights)))
            if len(known) == 1:
                self.assertTrue(alike(latest, earliest))
            self.assertTrue(set(must_see(sights)) <= set(matters(latest)) & set(matters(earliest)))


if __name__ == "__main__":
    unittest.main()
