"""Points 40 to 47: rows."""

import itertools
import unittest

from leafwaits.errors import InvalidHours, InvalidRows
from leafwaits.rows import alike, alone, check_parting, columns, is_reasons, lean, matters, never_behind, of_columns
from leafwaits.rows import of_rows, parting, reasons, rows, slack, telling
from leafwaits.rules import Rule, left_out, mirrored, named, parts, shifted, told, waited
from support import any_objects, canonical_by_definition, column_hour, random_hours, random_rule, row_hour, seeded
from support import within

FAR = 10 ** 9
LONG = 10 ** 29 + 7


def of(name, wait=0):
    return ("of", name, wait)


def rank(k, *terms):
    return ("rank", k, list(terms))


def rules(number, many=120, parts_of=6, names="abcd", waits=4):
    rng = seeded(number)
    return [random_rule(rng, parts_of, names, (), waits) for _ in range(many)]


def pairs(number, many=150):
    """Random pairs of rules, of which some are alike or ordered."""
    rng = seeded(number)
    found = []
    for _ in range(many):
        one, other = random_rule(rng, 5, "abc", (), 2), random_rule(rng, 5, "abc", (), 2)
        found.extend([(one, other), (one, shifted(one, rng.randint(0, 1))), (one, of_columns(columns(one)))])
    return found


def behind_somewhere(one, other):
    """Whether one rule tells more than another one at some hours, by the definition of rows alone."""
    some = [dict(row) for row in canonical_by_definition(one.term())]
    return not all(any(within(row, dict(last)) for row in some) for last in canonical_by_definition(other.term()))


class RowsTest(unittest.TestCase):
    def test_by_definition(self):
        for rule in rules(1, 300) + rules(2, 100, 7, "abcdef", 2):
            self.assertEqual(rows(rule), canonical_by_definition(rule.term()))
            self.assertEqual(matters(rule), sorted({name for row in rows(rule) for name, _ in row}))

    def test_examples_of_each_kind(self):
        self.assertEqual(rows(Rule(of("a", -LONG))), [[("a", -LONG)]])
        self.assertEqual(rows(rule=Rule(("first", [of("b"), of("a"), of("a", 1)]))), [[("a", 0)], [("b", 0)]])
        self.assertEqual(rows(Rule(("last", [of("b"), of("a", 5), of("a", LONG)]))), [[("a", LONG), ("b", 0)]])
        three = [of("a"), of("b"), of("c")]
        self.assertEqual(rows(Rule(rank(1, *three))), rows(Rule(("first", three))))
        self.assertEqual(rows(Rule(rank(3, *three))), rows(Rule(("last", three))))
        self.assertEqual(rows(Rule(rank(2, of("a"), of("a"), of("b")))), [[("a", 0)]])
        self.assertEqual(rows(Rule(rank(2, *[of("a", wait) for wait in [5, -3, 2]]))), [[("a", 2)]])

    def test_least_of_rows_and_greatest_of_columns(self):
        rng = seeded(3)
        for rule in rules(4):
            for _ in range(5):
                hours = random_hours(rng, "abcd")
                hour = told(rule, hours)
                self.assertEqual(min(row_hour(row, hours) for row in rows(rule)), hour)
                self.assertEqual(max(column_hour(column, hours) for column in columns(rule)), hour)

    def test_columns(self):
        for rule in rules(5):
            turned = sorted([(name, -wait) for name, wait in row] for row in rows(mirrored(rule)))
            self.assertEqual(columns(rule), turned)
        self.assertEqual(columns(rule=Rule(("last", [of("a", 1), of("a", 2), of("b")]))), [[("a", 2)], [("b", 0)]])

    def test_matters_just_whose_hour_can_change_what_is_told(self):
        rng = seeded(6)
        for rule in rules(7, 60):
            for name in "abcd":
                hours = random_hours(rng, "abcd")
                if name in matters(rule):
                    row = [row for row in rows(rule) if name in dict(row)][0]
                    hours.update(alone(rule, row))
                moved = dict(hours, **{name: hours[name] - FAR}), dict(hours, **{name: hours[name] + FAR})
                changes = told(rule, moved[0]) != told(rule, moved[1])
                self.assertEqual(changes, name in matters(rule))


class FormsTest(unittest.TestCase):
    def test_of_rows(self):
        some = [[("b", 2)], [("a", 1), ("b", 0)], [("a", 1), ("b", 1)], [("b", 2)]]
        self.assertEqual(of_rows(some).term(), ("first", [("last", [of("a", 1), of("b", 0)]), of("b", 2)]))
        self.assertEqual(of_rows(some=[[("a", 1)]]).term(), of("a", 1))
        self.assertEqual(of_rows([[("a", 1), ("b", LONG)]]).term(), ("last", [of("a", 1), of("b", LONG)]))
        self.assertEqual(of_rows([[("b", 1)], [("a", 3)]]).term(), ("first", [of("a", 3), of("b", 1)]))
        self.assertEqual(len(some), 4)

    def test_of_columns(self):
        some = [[("b", 2)], [("a", 1), ("b", 0)], [("a", 1), ("b", 3)], [("b", 2)]]
        self.assertEqual(of_columns(some).term(), ("last", [("first", [of("a", 1), of("b", 3)]), of("b", 2)]))
        self.assertEqual(of_columns(some=[[("a", 1)]]).term(), of("a", 1))
        self.assertEqual(of_columns([[("a", 1), ("b", 0)]]).term(), ("first", [of("a", 1), of("b", 0)]))
        self.assertEqual(of_columns([[("b", 1)], [("a", 3)]]).term(), ("last", [of("a", 3), of("b", 1)]))
        self.assertEqual(of_columns([[("a", 5)], [("a", 3)]]).term(), of("a", 5))

    def test_there_and_back(self):
        for rule in rules(8):
            self.assertEqual(rows(of_rows(rows(rule))), rows(rule))
            self.assertEqual(columns(of_columns(columns(rule))), columns(rule))
            self.assertEqual(rows(of_columns(columns(rule))), rows(rule))
            self.assertTrue(of_rows(rows(rule)) == of_rows(rows(rule)[::-1] + rows(rule)))
            self.assertTrue(of_columns(columns(rule)[::-1]) == of_columns(columns(rule)))

    def test_random_lists(self):
        rng = seeded(9)
        for _ in range(80):
            some = [sorted((name, rng.randint(-2, 2)) for name in rng.sample("abcd", rng.randint(1, 4)))
                    for _ in range(rng.randint(1, 6))]
            hours = random_hours(rng, "abcd")
            self.assertEqual(told(of_rows(some), hours), min(row_hour(row, hours) for row in some))
            self.assertEqual(told(of_columns(some), hours), max(column_hour(column, hours) for column in some))

    def test_no_rows(self):
        wrong = [value for value in any_objects() if value != [[("ann", 1)]]]
        wrong += [[[("a", 1), ("a", 2)]], [[("b", 1), ("a", 1)]], [[("a", 1)], []], [[("a", 1)], [("a", True)]],
                  [[["a", 1]]], [(("a", 1),)], ([("a", 1)],), [[("A", 1)]], [[("a", 1, 2)]], [[("a", None)]],
                  [[("a",)]]]
        for value in wrong:
            for make in [of_rows, of_columns]:
                with self.assertRaises(InvalidRows) as caught:
                    make(value)
                self.assertIs(caught.exception.value, value)


class CompareTest(unittest.TestCase):
    def test_never_behind_and_alike(self):
        seen = {}
        for one, other in pairs(10):
            never = not behind_somewhere(one, other)
            same = never and not behind_somewhere(other, one)
            self.assertIs(never_behind(one, other), never)
            self.assertIs(alike(one=one, other=other), same)
            seen[(never, same)] = True
        self.assertEqual(len(seen), 3)

    def test_parting(self):
        for one, other in pairs(11):
            hours = parting(one, other)
            self.assertEqual(hours is None, alike(one, other))
            if hours is not None:
                self.assertEqual(sorted(hours), sorted(set(named(one)[0] + named(other)[0])))
                self.assertNotEqual(told(one, hours), told(other, hours))
                self.assertIs(check_parting(one, other, hours), True)
                self.assertIs(check_parting(one, other, dict(hours, zed=5)), True)

    def test_parting_names_that_do_not_matter(self):
        idle = Rule(("first", [of("a"), ("last", [of("a", LONG), of("b", -LONG)])]))
        self.assertIsNone(parting(idle, Rule(of("a"))))
        self.assertEqual(sorted(parting(idle, Rule(of("c")))), ["a", "b", "c"])
        self.assertEqual(parting(one=idle, other=Rule(of("a", 1))), parting(idle, Rule(of("a", 1))))

    def test_check_parting(self):
        one, other = Rule(("last", [of("a"), of("b")])), Rule(of("a"))
        for value in any_objects() + [{"a": 1}, {"a": 1, "b": 1}, {"a": 1, "b": True}, {"a": 0, "b": 1, "C": 1}]:
            self.assertIs(check_parting(one, other, value), False)
        self.assertIs(check_parting(one=one, other=other, value={"a": 0, "b": 1}), True)

    def test_reasons(self):
        for one, other in pairs(12):
            word, proof = reasons(one, other)
            self.assertIs(is_reasons(one, other, (word, proof)), True)
            self.assertEqual(word, "never" if never_behind(one, other) else "behind")
            if word == "never":
                self.assertEqual([row for row, _ in proof], rows(other))
                for row, inner in proof:
                    self.assertIn(inner, rows(one))
                    self.assertTrue(within(dict(inner), dict(row)))
            else:
                self.assertEqual(sorted(proof), sorted(set(named(one)[0] + named(other)[0])))
                self.assertGreater(told(one, proof), told(other, proof))
                self.assertIs(is_reasons(one, other, (word, dict(proof, zed=-5))), True)

    def test_is_reasons(self):
        one, other = Rule(("first", [of("a"), of("b", 1)])), Rule(("last", [of("a"), of("b", 1)]))
        row, first, second = [("a", 0), ("b", 1)], [("a", 0)], [("b", 1)]
        for inner in [first, second]:
            self.assertIs(is_reasons(one=one, other=other, value=("never", [(row, inner)])), True)
        wrong = [("never", []), ("never", [(row, row)]), ("never", [(first, row)]), ("never", [(row, first)] * 2),
                 ("never", [[row, first]]), ("never", ((row, first),)), ["never", [(row, first)]], ("never",),
                 ("never", [(row, first)], 1), ("behind", [(row, first)]), ("never", [(row, [("a", False)])]),
                 ("never", [([("a", False), ("b", True)], first)]), ("never", [(row, tuple(first))]), (None, None),
                 ("never", [(row, first, 1)]), ("never", [None]), ("never", None), ("never", {}), ("behind", None),
                 ("behind", {"a": 0, "b": 0}), ("never", [(row, [("a", -1)])]), (["never"], []), ("never", [(row,)]),
                 ("ever", [(row, first)]), ("never", [(first, first)]), ("never", [([("a", 0), ("b", 2)], first)])]
        for value in wrong + any_objects():
            self.assertIs(is_reasons(one, other, value), False)
        self.assertIs(is_reasons(other, one, ("behind", {"a": 0, "b": 0})), True)
        for hours in [{"a": 0}, {"a": 0, "b": False}, {"a": 1, "b": 0}, {"a": 0, "b": 0, "": 1}, [("a", 0)]]:
            self.assertIs(is_reasons(other, one, ("behind", hours)), False)

    def test_a_row_that_does_not_lie_within_is_no_reason(self):
        one, other = Rule(("first", [of("a"), of("c")])), Rule(("last", [of("a"), of("b")]))
        row = [("a", 0), ("b", 0)]
        self.assertIs(is_reasons(one, other, ("never", [(row, [("a", 0)])])), True)
        self.assertIs(is_reasons(one, other, ("never", [(row, [("c", 0)])])), False)

    def test_a_row_that_is_not_canonical_is_no_reason(self):
        one, other = Rule(("first", [of("a"), ("last", [of("a", 1), of("b")])])), Rule(("last", [of("a", 1), of("b")]))
        row = [("a", 1), ("b", 0)]
        self.assertIs(is_reasons(one, other, ("never", [(row, row)])), False)
        self.assertIs(is_reasons(one, other, ("never", [(row, [("a", 0)])])), True)


class HoursTest(unittest.TestCase):
    def test_telling(self):
        rng = seeded(13)
        for rule in rules(14):
            hours = random_hours(rng, "abcde", 3)
            hour = told(rule, hours)
            expected = [row for row in rows(rule) if row_hour(row, hours) == hour]
            self.assertEqual(telling(rule, hours), expected)
            self.assertTrue(expected)

    def test_wrong_hours(self):
        rule = Rule(("last", [of("ann"), of("bob")]))
        for value in any_objects() + [{"ann": 1, "bob": True}, {"ann": 1}, {"ann": 1, "bob": 1, "Z": 1}]:
            with self.assertRaises(InvalidHours) as caught:
                telling(rule, value)
            self.assertIs(caught.exception.value, value)
        self.assertEqual(telling(rule=rule, hours={"ann": 1, "bob": LONG, "z": 0}), [[("ann", 0), ("bob", 0)]])

    def test_alone(self):
        for rule in rules(15):
            for row in rows(rule):
                hours = alone(rule, row)
                self.assertEqual(sorted(hours), named(rule)[0])
                self.assertEqual(telling(rule, hours), [row])
                greatest = [name for name, wait in row if hours[name] + wait == told(rule, hours)]
                for name in greatest:
                    self.assertEqual(told(rule, dict(hours, **{name: hours[name] + 1})), told(rule, hours) + 1)

    def test_no_canonical_row(self):
        rule = Rule(("first", [of("a", 1), ("last", [of("a"), of("b", 0)]), ("last", [of("a", 1), of("c")])]))
        wrong = [[("a", 0)], [("a", 1), ("c", 0)], [("a", True)], (("a", 1),), [("a", 0), ("b", False)], [["a", 1]], []]
        for value in wrong + any_objects():
            with self.assertRaises(InvalidRows) as caught:
                alone(rule, value)
            self.assertIs(caught.exception.value, value)
        self.assertEqual(sorted(alone(rule=rule, row=[("a", 1)])), ["a", "b", "c"])


class SlackTest(unittest.TestCase):
    def test_by_trying(self):
        for rule in rules(16, 150, 6, "abc", 3):
            found = slack(rule)
            self.assertEqual([path for path, _, _ in found], [path for path, _ in parts(rule)])
            for (path, less, more), (_, part) in zip(found, parts(rule)):
                for number, sign in [(less, -1), (more, 1)]:
                    if number is None:
                        self.assertTrue(alike(waited(rule, path, part[2] + sign * FAR), rule))
                    else:
                        self.assertTrue(alike(waited(rule, path, part[2] + sign * number), rule))
                        self.assertFalse(alike(waited(rule, path, part[2] + sign * (number + 1)), rule))

    def test_examples(self):
        self.assertEqual(slack(Rule(of("a", LONG))), [((), 0, 0)])
        twice = Rule(("last", [of("a", 7), of("a", -LONG)]))
        self.assertEqual(slack(rule=twice), [((0,), 0, 0), ((1,), None, LONG + 7)])

    def test_lean(self):
        for rule in rules(17, 60, 6, "abc", 2) + rules(18, 30, 5, "ab", 1):
            thin = lean(rule=rule)
            paths = [path for path, _ in parts(rule)]
            self.assertTrue(alike(thin, rule))
            many = len(paths) - len(parts(thin))
            made = [left_out(rule, list(gone)) for gone in itertools.combinations(paths, many)]
            self.assertTrue(any(one == thin for one in made))
            for fewer in range(many + 1, len(paths)):
                for gone in itertools.combinations(paths, fewer):
                    self.assertFalse(alike(left_out(rule, list(gone)), rule))

    def test_lean_needs_more_than_one_by_one(self):
        rule = Rule(("first", [of("a"), of("a"), of("b")]))
        self.assertEqual(len(parts(lean(rule))), 2)
        whole = Rule(("last", [of("a"), of("b")]))
        self.assertTrue(lean(whole) == whole)
        self.assertTrue(lean(Rule(of("a"))) == Rule(of("a")))


class NewListsTest(unittest.TestCase):
    def test_what_is_returned_can_be_changed(self):
        rule = Rule(("last", [("first", [of("a"), of("b", 1)]), of("c")]))
        other = Rule(("last", [of("a"), of("c")]))
        calls = [lambda: rows(rule), lambda: columns(rule), lambda: telling(rule, {"a": 0, "b": 0, "c": 0}),
                 lambda: reasons(rule, other)[1], lambda: reasons(other, rule)[1], lambda: parting(rule, other),
                 lambda: matters(rule), lambda: slack(rule), lambda: alone(rule, rows(rule)[0])]
        for call in calls:
            first = repr(call())
            got = call()
            for inner in got:
                if isinstance(inner, list):
                    inner.clear()
                if isinstance(inner, tuple) and isinstance(inner[0], list):
                    inner[0].clear()
                    inner[1].clear()
            got.clear()
            self.assertEqual(repr(call()), first)

    def test_what_is_passed_can_be_changed(self):
        some = [[("a", 0), ("b", 1)], [("b", 0)]]
        rule, column = of_rows(some), of_columns(some)
        terms = rule.term(), column.term()
        some[0].clear()
        some.clear()
        self.assertEqual((rule.term(), column.term()), terms)


if __name__ == "__main__":
    unittest.main()
