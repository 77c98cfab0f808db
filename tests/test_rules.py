"""Points 30 to 34: rules."""

import unittest

from leafwaits.errors import InvalidHours, InvalidPath, InvalidTerm
from leafwaits.rules import Rule, left_out, mirrored, named, parts, put_in, shifted, told, waited
from support import any_objects, random_hours, random_rule, seeded, told_by_definition

NAMES = ["a", "b", "c", "d"]
LONG = 10 ** 29 + 7


def of(name, wait=0):
    return ("of", name, wait)


def now(name, wait=0):
    return ("now", name, wait)


def rank(k, *terms):
    return ("rank", k, list(terms))


def samples(number, nows=("c", "d")):
    rng = seeded(number)
    return [(random_rule(rng, 7, "abcd", nows), rng) for _ in range(150)]


class TermTest(unittest.TestCase):
    def test_terms_are_taken(self):
        for term in [of("a"), now("abcdefgh", -LONG), ("first", [of("a")]), ("last", [of("a"), now("a")]),
                     rank(1, of("a")), rank(3, of("a"), of("a"), rank(1, now("z", LONG)))]:
            self.assertEqual(Rule(term).term(), term)
            self.assertEqual(Rule(term=term), Rule(term))

    def test_no_terms_are_not(self):
        wrong = [value for value in any_objects() if value not in [of("ann", 1), ("last", [of("ann", 1)])]]
        wrong += [("off", "a", 1), ("of", "a"), ("of", "a", 1, 1), ("of", "", 1), ("of", "abcdefghi", 1)]
        wrong += [("of", "A", 1), ("of", "a", "1"), ("of", "a", None), ("of", "a", False), ("of", ["a"], 1)]
        wrong += [("first", [of("a")], 1), ("first",), ("last", (of("a"),)), ("last", of("a")), ("last", [of])]
        wrong += [("last", [["of", "a", 1]]), ("first", [of("a"), ("last", [])]), ("first", {})]
        wrong += [rank(0, of("a")), rank(2, of("a")), rank(True, of("a")), rank("1", of("a")), rank(-1, of("a"))]
        wrong += [("rank", 1, (of("a"),)), ("rank", 1, []), ("rank", [of("a")], 1), ("rank", 1), (None, 1, 2)]
        wrong += [("rang", 1, [of("a")]), (None, 1, [of("a")]), ("then", "a", 1), ("any", [of("a")])]
        wrong += [Rule(of("a")), ([],), ({}, "a", 1), (Rule(of("a")), "a", 1), ("first", [Rule(of("a"))])]
        for value in wrong:
            with self.assertRaises(InvalidTerm) as caught:
                Rule(value)
            self.assertIs(caught.exception.value, value)

    def test_terms_are_kept_apart(self):
        inner = [of("b", 2)]
        outer = [of("a", 1), ("first", inner)]
        rule = Rule(("last", outer))
        inner.append(of("c", 3))
        outer.pop()
        self.assertEqual(rule.term(), ("last", [of("a", 1), ("first", [of("b", 2)])]))
        rule.term()[1].append(of("d", 4))
        rule.term()[1][1][1].clear()
        self.assertEqual(rule.term(), ("last", [of("a", 1), ("first", [of("b", 2)])]))
        parts(rule).clear()
        named(rule)[0].clear()
        self.assertEqual((len(parts(rule)), named(rule)), (2, (["a", "b"], [])))

    def test_equal_exactly_if_terms_are(self):
        rule = Rule(("first", [of("a"), of("b")]))
        self.assertTrue(rule == Rule(("first", [of("a"), of("b")])))
        self.assertFalse(rule != Rule(("first", [of("a"), of("b")])))
        for term in [("first", [of("b"), of("a")]), ("last", [of("a"), of("b")]), rank(1, of("a"), of("b")), of("a"),
                     ("first", [of("a"), now("b")])]:
            self.assertFalse(rule == Rule(term))
        for value in any_objects() + [("first", [of("a"), of("b")])]:
            self.assertFalse(rule == value)
            self.assertFalse(value == rule)


class ToldTest(unittest.TestCase):
    def test_each_kind(self):
        hours, this = {"a": 4, "b": 9, "c": 4}, {"a": 100}
        self.assertEqual(told(Rule(of("a", -6)), hours), -2)
        self.assertEqual(told(Rule(now("a", 1)), {}, this), 101)
        terms = [of("b"), of("a"), of("c"), now("a")]
        self.assertEqual(told(Rule(("first", terms)), hours, this), 4)
        self.assertEqual(told(Rule(("last", terms)), hours, this), 100)
        self.assertEqual([told(Rule(rank(k, *terms)), hours, this) for k in [1, 2, 3, 4]], [4, 4, 9, 100])
        self.assertEqual(told(rule=Rule(now("a", 1)), hours={}, now=this), 101)

    def test_by_definition(self):
        for rule, rng in samples(1):
            hours, this = random_hours(rng, NAMES), random_hours(rng, NAMES)
            self.assertEqual(told(rule, hours, this), told_by_definition(rule.term(), hours, this))

    def test_long_numbers(self):
        rule = Rule(("last", [of("a", LONG), of("b", -LONG)]))
        self.assertEqual(told(rule, {"a": -LONG, "b": 3 * LONG}), 2 * LONG)

    def test_hours(self):
        rule = Rule(("last", [of("a"), now("b")]))
        self.assertEqual(told(rule, {"a": 1, "z": 0}, {"b": 0, "a": 5}), 1)
        for wrong in [{}, {"b": 1}, {"a": True}, {"a": 1, "B": 1}, {"a": 1, "b": "1"}, {"a": 1, 1: 1}, None,
                      [("a", 1)]]:
            for this in [{"b": 1}, None, 7]:
                with self.assertRaises(InvalidHours) as caught:
                    told(rule, wrong, this)
                self.assertIs(caught.exception.value, wrong)
        for wrong in [None, {}, {"a": 1}, {"b": False}, {"b": 1, "": 2}, {"b": 1, "c": None}, 3, [("b", 1)]]:
            with self.assertRaises(InvalidHours) as caught:
                told(rule, {"a": 1}, wrong)
            self.assertIs(caught.exception.value, wrong)

    def test_hours_where_no_names_stand(self):
        late, soon = Rule(now("b", 2)), Rule(of("b", 2))
        self.assertEqual([told(late, {}, {"b": 1}), told(late, {"z": 1}, {"b": 1})], [3, 3])
        self.assertEqual([told(soon, {"b": 1}), told(soon, {"b": 1}, {}), told(soon, {"b": 1}, {"z": 4})], [3, 3, 3])
        for wrong in [None, [], {"b": None}, 0]:
            with self.assertRaises(InvalidHours) as caught:
                told(late, wrong, {"b": 1})
            self.assertIs(caught.exception.value, wrong)
        for wrong in [False, [], (), {"b": None}, {1: 1}, 0]:
            with self.assertRaises(InvalidHours) as caught:
                told(soon, {"b": 1}, wrong)
            self.assertIs(caught.exception.value, wrong)

    def test_named(self):
        rule = Rule(("last", [of("d"), now("c"), rank(1, of("b"), of("d", 3), now("d"), now("a"))]))
        self.assertEqual(named(rule), (["b", "d"], ["a", "c", "d"]))
        self.assertEqual(named(Rule(now("x"))), ([], ["x"]))


class ChangedRulesTest(unittest.TestCase):
    def test_shifted(self):
        rule = Rule(rank(2, of("a", 1), now("b", -3), ("first", [of("c", LONG)])))
        self.assertEqual(shifted(rule, 4).term(), rank(2, of("a", 5), now("b", 1), ("first", [of("c", LONG + 4)])))
        self.assertEqual(shifted(rule=rule, by=-LONG).term()[2][2], ("first", [of("c", 0)]))
        for rule, rng in samples(2):
            hours, this, by = random_hours(rng, NAMES), random_hours(rng, NAMES), rng.randint(-9, 9)
            self.assertEqual(told(shifted(rule, by), hours, this), told(rule, hours, this) + by)

    def test_mirrored(self):
        rule = Rule(("first", [of("a", 1), ("last", [now("b", -3)]), rank(1, of("c"), of("c", 2), of("b", -LONG))]))
        other = ("last", [of("a", -1), ("first", [now("b", 3)]), rank(3, of("c"), of("c", -2), of("b", LONG))])
        self.assertEqual(mirrored(rule).term(), other)
        for rule, rng in samples(3):
            hours, this = random_hours(rng, NAMES), random_hours(rng, NAMES)
            turned = {name: -hour for name, hour in hours.items()}, {name: -hour for name, hour in this.items()}
            self.assertEqual(told(mirrored(rule), *turned), -told(rule, hours, this))
            self.assertTrue(mirrored(mirrored(rule)) == rule)

    def test_put_in(self):
        rule = Rule(("last", [of("a", 2), now("a", 3), ("first", [of("b", 4), of("c", 5)])]))
        table = {"a": Rule(("first", [of("b", 10), now("z", 20)])), "b": Rule(of("a", -1)), "y": Rule(of("q", 7))}
        got = ("last", [("first", [of("b", 12), now("z", 22)]), now("a", 3), ("first", [of("a", 3), of("c", 5)])])
        self.assertEqual(put_in(rule, table).term(), got)
        self.assertEqual(put_in(rule=rule, rules={}), rule)
        self.assertEqual(sorted(table), ["a", "b", "y"])

    def test_put_in_tells_the_hours_of_the_keys(self):
        rng = seeded(4)
        for _ in range(100):
            rule = random_rule(rng, 5)
            table = {name: random_rule(rng, 3) for name in rng.sample(NAMES, rng.randint(0, 4))}
            hours = random_hours(rng, NAMES)
            behind = dict(hours)
            behind.update({name: told(table[name], hours) for name in table})
            self.assertEqual(told(put_in(rule, table), hours), told(rule, behind))


class PartsTest(unittest.TestCase):
    rule = Rule(("last", [of("a", 1), rank(2, of("b", 2), ("first", [now("a", 3)]), of("c", 4)), of("a", 1)]))

    def test_parts(self):
        self.assertEqual(parts(self.rule), [((0,), of("a", 1)), ((1, 0), of("b", 2)), ((1, 1, 0), now("a", 3)),
                                            ((1, 2), of("c", 4)), ((2,), of("a", 1))])
        self.assertEqual(parts(Rule(now("a", 1))), [((), now("a", 1))])

    def test_waited(self):
        self.assertEqual(waited(Rule(now("a", 1)), (), -LONG).term(), now("a", -LONG))
        self.assertEqual(waited(rule=self.rule, path=(1, 1, 0), wait=9).term()[1][1],
                         rank(2, of("b", 2), ("first", [now("a", 9)]), of("c", 4)))
        for path, part in parts(self.rule):
            self.assertEqual(dict(parts(waited(self.rule, path, 77)))[path], (part[0], part[1], 77))
            self.assertTrue(waited(self.rule, path, part[2]) == self.rule)

    def test_wrong_paths(self):
        wrong = [(), (1,), (3,), (0, 0), (1, 1), (1, 1, 0, 0), (False,), (True, 0), (-1,), (10 ** 29,), [0], 0, None,
                 "0", ((0,),), ("0",), {0: 0}]
        for path in wrong:
            for wait in [1, None]:
                with self.assertRaises(InvalidPath) as caught:
                    waited(self.rule, path, wait)
                self.assertIs(caught.exception.value, path)
        for path in [(0,), None, (False,)]:
            with self.assertRaises(InvalidPath):
                waited(Rule(of("a")), path, 1)

    def test_left_out(self):
        self.assertEqual(left_out(self.rule, []), self.rule)
        self.assertEqual(left_out(self.rule, [(2,), (0,)]).term(),
                         ("last", [rank(2, of("b", 2), ("first", [now("a", 3)]), of("c", 4))]))
        self.assertEqual(left_out(self.rule, [(1, 1, 0)]).term()[1][1], rank(2, of("b", 2), of("c", 4)))
        self.assertEqual(left_out(self.rule, [(1, 2), (1, 1, 0)]).term()[1][1], rank(1, of("b", 2)))
        self.assertEqual(left_out(rule=self.rule, paths=[(1, 0), (1, 1, 0), (1, 2)]).term(),
                         ("last", [of("a", 1), of("a", 1)]))
        self.assertEqual(left_out(Rule(of("a")), []), Rule(of("a")))
        low = Rule(rank(1, of("a"), of("b"), of("c")))
        self.assertEqual(left_out(low, [(0,), (1,)]).term(), rank(1, of("c")))

    def test_wrong_lists_of_paths(self):
        every = [path for path, _ in parts(self.rule)]
        wrong = [every, every[::-1], [(0,), (0,)], [(1,)], [()], [(0, 0)], [[0]], [(False,)], [(0,), (True, 0)],
                 ((0,),), (), None, {}, {(0,): 1}, [None], [0], [(0,), (9,)], (0,)]
        for paths in wrong:
            with self.assertRaises(InvalidPath) as caught:
                left_out(self.rule, paths)
            self.assertIs(caught.exception.value, paths)
        for paths in [[()], [(0,)]]:
            with self.assertRaises(InvalidPath):
                left_out(Rule(of("a")), paths)


if __name__ == "__main__":
    unittest.main()
