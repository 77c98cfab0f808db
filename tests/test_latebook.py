"""Points 70 to 75: the late book."""

import itertools
import unittest

from leafwaits.books import Book, after, flat
from leafwaits.errors import InvalidBook, InvalidCount, InvalidRule, InvalidWhole, NotFlat
from leafwaits.latebook import harmless, is_late_rule, late_after, late_book, late_rule, over_told, parting_lates
from leafwaits.latebook import same_lates, whole_names
from leafwaits.rows import alike, columns, matters, never_behind, of_rows, rows
from leafwaits.rules import Rule, mirrored, named, put_in, shifted, told
from support import canonical_by_definition, random_book, random_hours, random_rule, seeded, told_by_definition

LONG = 10 ** 12 - 1


def of(name, wait=0):
    return Rule(("of", name, wait))


def row_term(row):
    return ("last", [("of", name, wait) for name, wait in row])


def late_term(known):
    """The late rule of a rule with some canonical rows, word by word as point 70 tells it."""
    firsts = []
    for row in known:
        waits = dict(row)
        inner = [[(name, wait - waits[name]) for name, wait in other] for other in known
                 if all(name in waits for name, _ in other)]
        firsts.append(("first", [row_term(other) for other in inner]))
    return ("last", firsts)


def all_hours(names, span):
    """All hours of some names; as only differences count, the first one is 0."""
    for rest in itertools.product(range(-span, span + 1), repeat=len(names) - 1):
        yield dict(zip(names, (0,) + rest))


def greatest_lateness(rule, lates, every):
    term = rule.term()
    found = []
    for hours in every:
        late = {name: hour + lates[name] for name, hour in hours.items()}
        found.append(told_by_definition(term, late, {}) - told_by_definition(term, hours, {}))
    return max(found)


def flat_rules(number, many, names="abc", parts=5, waits=2):
    rng = seeded(number)
    return [(random_rule(rng, parts, names, (), waits), rng) for _ in range(many)]


class LateRuleTest(unittest.TestCase):
    def test_by_the_words_of_the_point(self):
        sizes = set()
        for rule, _ in flat_rules(1, 400, "abcd", 6, 3):
            known = rows(rule)
            if len(known) < 6:
                late = late_rule(rule=rule)
                self.assertEqual(rows(late), canonical_by_definition(late_term(known)))
                self.assertTrue(late == of_rows(rows(late)))
                sizes.add(len(rows(late)))
        self.assertTrue({1, 2, 3} <= sizes)

    def test_hours_one_by_one(self):
        for names, many, span in [("ab", 60, 12), ("abc", 12, 9)]:
            every = list(all_hours(names, span))
            for rule, rng in flat_rules(2, many, names, 5, 2):
                late = late_rule(rule)
                for _ in range(6):
                    lates = random_hours(rng, names, 3)
                    self.assertEqual(told(late, lates), greatest_lateness(rule, lates, every))
                    least = -greatest_lateness(rule, {name: -by for name, by in lates.items()},
                                               [{name: -hour for name, hour in hours.items()} for hours in every])
                    self.assertGreaterEqual(told(late, lates), least)

    def test_least_number_by_the_mirrored_rule(self):
        every = list(all_hours("ab", 14))
        for rule, rng in flat_rules(3, 60, "ab", 5, 2):
            lates = random_hours(rng, "ab", 3)
            term = rule.term()
            gaps = [told_by_definition(term, {name: hour + lates[name] for name, hour in hours.items()}, {})
                    - told_by_definition(term, hours, {}) for hours in every]
            self.assertEqual(told(mirrored(late_rule(rule)), lates), min(gaps))

    def test_only_names_that_matter(self):
        idle = Rule(("first", [("of", "a", 0), ("last", [("of", "a", 1), ("of", "b", 0)])]))
        self.assertTrue(late_rule(idle) == of("a"))
        self.assertTrue(late_rule(of("a", -LONG)) == of("a"))
        for rule, _ in flat_rules(4, 60, "abcd"):
            self.assertEqual(named(late_rule(rule)), (matters(rule), []))

    def test_many_rows(self):
        # Without the rows of whole lateness put in first, what comes up between would be far too many.
        some = [[("a", 5 * at), ("b", -3 * at), ("c", (at * at) // 5 - 2 * at), ("d", at - (at * at) // 5)]
                for at in range(1, 20)]
        known = rows(of_rows(some))
        late = rows(late_rule(of_rows(some + [[("a", 100)]])))
        self.assertEqual(late[-1], [("a", 95)])
        self.assertEqual(rows(late_rule(of_rows(known))), [[(name, 0) for name in "abcd"]])

    def test_late_rules_of_changed_rules(self):
        for rule, rng in flat_rules(5, 60, "abcd", 6, 3):
            late = late_rule(rule)
            self.assertTrue(late_rule(late) == late)
            self.assertTrue(late_rule(mirrored(rule)) == late)
            self.assertTrue(late_rule(shifted(rule, rng.randint(-LONG, LONG))) == late)
            moved = put_in(rule, {name: of(name, rng.randint(-LONG, LONG)) for name in "abcd"})
            self.assertTrue(late_rule(moved) == late)

    def test_is_late_rule(self):
        answers = {True: 0, False: 0}
        for rule, rng in flat_rules(6, 400, "abc", 4, 1):
            for some in [rule, shifted(rule, -told(rule, {"a": 0, "b": 0, "c": 0}))]:
                answer = is_late_rule(rule=some)
                self.assertIs(answer, alike(some, late_rule(some)))
                answers[answer] += 1
        self.assertTrue(min(answers.values()) > 60)
        for rule, rng in flat_rules(7, 50, "abc", 5, 4):
            self.assertIs(is_late_rule(late_rule(rule)), True)
            self.assertIs(is_late_rule(shifted(late_rule(rule), rng.choice([-1, 1]))), False)

    def test_what_late_rules_are(self):
        zero = {"a": 0, "b": 0}
        every = list(all_hours("ab", 5))
        for rule, _ in flat_rules(8, 60, "ab", 4, 1):
            added = [({name: one[name] + other[name] for name in "ab"}, one, other) for one in every for other in every]
            is_late = told(rule, zero) == 0 and all(
                told(rule, both) <= told(rule, one) + told(rule, other) for both, one, other in added)
            self.assertIs(is_late_rule(rule), is_late)


class SameLatesTest(unittest.TestCase):
    def test_same_and_parting(self):
        rng = seeded(9)
        answers = {True: 0, False: 0}
        for _ in range(200):
            one, other = random_rule(rng, 4, "abc", (), 1), random_rule(rng, 4, "abc", (), 1)
            for pair in [(one, other), (one, mirrored(one)), (other, one)]:
                same = alike(late_rule(pair[0]), late_rule(pair[1]))
                self.assertIs(same_lates(one=pair[0], other=pair[1]), same)
                lates = parting_lates(one=pair[0], other=pair[1])
                self.assertEqual(lates is None, same)
                answers[same] += 1
                if lates is not None:
                    self.assertEqual(sorted(lates), sorted(set(matters(pair[0]) + matters(pair[1]))))
                    self.assertNotEqual(told(late_rule(pair[0]), lates), told(late_rule(pair[1]), lates))
        self.assertTrue(min(answers.values()) > 50)

    def test_names_that_do_not_matter(self):
        idle = Rule(("first", [("of", "a", 0), ("last", [("of", "a", 1), ("of", "b", 0)])]))
        self.assertIs(same_lates(idle, of("a", 3)), True)
        self.assertIsNone(parting_lates(idle, of("a", 3)))
        self.assertEqual(sorted(parting_lates(idle, of("c"))), ["a", "c"])


class LateBookTest(unittest.TestCase):
    def test_late_book(self):
        rng = seeded(10)
        for _ in range(40):
            book = random_book(rng, rng.choice(["ab", "abc", "abcd"]))
            late = late_book(book=book)
            self.assertEqual(late.names(), book.names())
            for name in book.names():
                self.assertTrue(late.rule(name) == late_rule(flat(book).rule(name)))
            self.assertTrue(late_after(book, 1) == late)

    def test_late_after(self):
        rng = seeded(11)
        for _ in range(25):
            book = random_book(rng, "abc")
            for many in [1, 2, 3]:
                late = late_after(book=book, many=many)
                behind = after(book, many)
                more = after(late_book(book), many)
                for name in "abc":
                    self.assertTrue(late.rule(name) == late_rule(behind.rule(name)))
                    self.assertTrue(never_behind(late.rule(name), more.rule(name)))

    def test_over_told(self):
        rng = seeded(12)
        answers = set()
        for _ in range(150):
            book = random_book(rng, "abc", 4, 2)
            many = rng.choice([1, 2, 3])
            got = over_told(book=book, many=many)
            self.assertEqual(list(got), ["a", "b", "c"])
            more, less = after(late_book(book), many), late_after(book, many)
            for name, number in got.items():
                far = [dict(zip("abc", lates)) for lates in itertools.product([0, LONG], repeat=3)]
                endless = max(told(more.rule(name), lates) - told(less.rule(name), lates) for lates in far) > LONG // 2
                self.assertEqual(number is None, endless)
                answers.add(number)
                if number is not None:
                    near = list(all_hours("abc", 3))
                    gaps = [told(more.rule(name), lates) - told(less.rule(name), lates) for lates in near]
                    self.assertTrue(0 <= max(gaps) <= number)
                    if number < 2:
                        self.assertEqual(max(gaps), number)
        self.assertTrue({0, 1, None} <= answers)

    def test_over_told_by_the_words_of_point_130(self):
        rng = seeded(13)
        for _ in range(60):
            book = random_book(rng, "abcd", 4, 9)
            more, less = after(late_book(book), 2), late_after(book, 2)
            for name, number in over_told(book, 2).items():
                gaps = []
                for row in rows(less.rule(name)):
                    waits = dict(row)
                    inner = [other for other in rows(more.rule(name)) if all(key in waits for key, _ in other)]
                    gaps.append(min([max(wait - waits[key] for key, wait in other) for other in inner], default=None))
                self.assertEqual(number, None if None in gaps else max(gaps))

    def test_nothing_is_over_told_of_lasts_and_of_firsts(self):
        rng = seeded(14)
        for word in ["first", "last"]:
            for _ in range(10):
                rules = [(name, Rule((word, [("of", rng.choice("abc"), rng.randint(-9, 9)) for _ in range(3)])))
                         for name in "abc"]
                book = Book(rules)
                counts = [len(rows(rule)) if word == "last" else len(columns(rule)) for _, rule in rules]
                self.assertEqual(counts, [1, 1, 1])
                self.assertTrue(late_after(book, 2) == after(late_book(book), 2))
                self.assertEqual(over_told(book, 2), {"a": 0, "b": 0, "c": 0})

    def test_endless(self):
        # In two rounds i waits for k alone.
        chain = Book([("a", Rule(("last", [("of", "j", 0), ("of", "k", 0)]))), ("b", of("k")), ("j", of("j")),
                      ("k", of("k")), ("i", Rule(("first", [("of", "a", 0), ("of", "b", 0)])))])
        self.assertEqual(over_told(chain, 2), {"a": 0, "b": 0, "i": None, "j": 0, "k": 0})
        self.assertTrue(late_after(chain, 2).rule("i") == of("k"))

    def test_errors(self):
        book = Book([("a", of("a"))])
        for call in [late_after, over_told]:
            for many in [0, -1, True, None, "1", [2]]:
                with self.assertRaises(InvalidCount) as caught:
                    call(book, many)
                self.assertIs(caught.exception.value, many)
                with self.assertRaises(InvalidBook):
                    call(None, many)


class WholeNamesTest(unittest.TestCase):
    def test_counts_one_by_one(self):
        answers = set()
        for rule, _ in flat_rules(15, 250, "abcd", 6, 2):
            late = late_rule(rule)
            whole = []
            for name in matters(rule):
                lates = [told(late, {other: count if other == name else 0 for other in "abcd"}) for count in range(30)]
                if lates == list(range(30)):
                    whole.append(name)
                else:
                    self.assertEqual(lates[-1], lates[-5])
            self.assertEqual(whole_names(rule=rule), whole)
            answers.add((len(whole), len(matters(rule))))
        self.assertTrue({(1, 1), (1, 2), (2, 2), (2, 3)} <= answers)

    def test_a_name_of_all_rows_within_one(self):
        rule = of_rows([[("a", 0), ("b", 5)], [("b", 9)], [("c", 0)]])
        self.assertEqual(whole_names(rule), ["b", "c"])
        # However late a is, b alone may tell: a is late by 4 at most.
        self.assertEqual(told(late_rule(rule), {"a": 99, "b": 0, "c": 0}), 4)


class HarmlessTest(unittest.TestCase):
    def test_rows_and_what_they_mean(self):
        for rule, rng in flat_rules(16, 80, "abc", 6, 3):
            late = late_rule(rule)
            most = rng.randint(-4, 6)
            lots = harmless(rule=rule, most=most)
            self.assertEqual(lots, [[(name, most - wait) for name, wait in row] for row in rows(late)])
            for _ in range(15):
                lates = random_hours(rng, "abc", 5)
                kept = any(all(lates[name] <= number for name, number in row) for row in lots)
                self.assertIs(told(late, lates) <= most, kept)
        lots = harmless(of("a", 4), -LONG)
        self.assertEqual(lots, [[("a", -LONG)]])
        lots[0].clear()
        self.assertEqual(harmless(of("a", 4), -LONG), [[("a", -LONG)]])

    def test_errors_in_order(self):
        hung = Rule(("now", "a", 0))
        for value in [None, True, "1", [1], (1,), of("a")]:
            with self.assertRaises(InvalidWhole) as caught:
                harmless(of("a"), value)
            self.assertIs(caught.exception.value, value)
            with self.assertRaises(NotFlat) as caught:
                harmless(hung, value)
            self.assertIs(caught.exception.value, hung)
            with self.assertRaises(InvalidRule):
                harmless(None, value)

    def test_not_flat(self):
        hung = Rule(("first", [("of", "a", 0), ("now", "a", 0)]))
        for call in [late_rule, is_late_rule, whole_names, lambda rule: same_lates(rule, None),
                     lambda rule: parting_lates(rule, None), lambda rule: same_lates(of("a"), rule),
                     lambda rule: parting_lates(of("a"), rule)]:
            with self.assertRaises(NotFlat) as caught:
                call(hung)
            self.assertIs(caught.exception.value, hung)


if __name__ == "__main__":
    unittest.main()
