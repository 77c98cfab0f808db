"""Point 3: rules and books of the greatest size are answered soon, whatever the length of the numbers."""

import time
import unittest

from leafwaits.books import Book, after, alike_books, alike_from, check_parting_after, flat, hours_behind, parting_after
from leafwaits.books import then
from leafwaits.rows import alike, alone, columns, lean, matters, of_columns, of_rows, parting, reasons, rows, slack
from leafwaits.rows import telling
from leafwaits.rules import Rule, mirrored, put_in, told
from support import random_hours, random_rule, seeded

SOON = 8
SIX = ["a", "b", "c", "d", "e", "f"]
LONG_WAIT = 10 ** 12 - 1

# These were found by a search for books with a lot of rows: each scribe hangs on those ahead of it.
FIVE = {
    "a": ("rank", 3, [("of", "a", -39), ("of", "d", 0), ("of", "e", -18), ("of", "b", 83)]),
    "b": ("rank", 2, [("of", "e", 871), ("now", "a", -636), ("of", "a", 873), ("of", "b", 662)]),
    "c": ("rank", 2, [("of", "d", 1), ("of", "c", 2), ("of", "a", 2), ("now", "b", 2)]),
    "d": ("rank", 3, [("now", "c", -3), ("of", "c", -6), ("now", "b", -6), ("now", "a", -5)]),
    "e": ("rank", 2, [("now", "c", -520), ("of", "e", 774), ("of", "d", -125), ("now", "d", -957)]),
}
FIVE_MORE = {
    "a": ("rank", 2, [("of", "e", -35), ("of", "c", 90), ("of", "d", 44), ("of", "b", -66)]),
    "b": ("rank", 3, [("of", "e", 67), ("of", "b", -99), ("of", "d", -14), ("now", "a", 26)]),
    "c": ("rank", 2, [("now", "a", 900), ("of", "c", -361), ("now", "a", 616), ("of", "c", 974)]),
    "d": ("rank", 2, [("of", "a", 319), ("now", "c", -84), ("of", "b", -605), ("now", "b", 105)]),
    "e": ("rank", 3, [("of", "c", 0), ("of", "e", 2), ("now", "d", 2), ("of", "a", -3)]),
}
THREE = {
    "a": ("rank", 3, [("of", "c", 2), ("of", "c", 6), ("of", "c", 4), ("of", "b", 0), ("of", "a", 3), ("of", "a", -1)]),
    "b": ("rank", 5, [("now", "a", 1), ("of", "c", -8), ("of", "a", -7), ("of", "b", -10), ("now", "a", -2),
                      ("of", "c", -1)]),
    "c": ("rank", 3, [("of", "a", 96), ("now", "b", -39), ("now", "a", -67), ("of", "b", 67), ("now", "a", 79),
                      ("of", "b", -99)]),
}


def book_of(terms):
    return Book([(name, Rule(term)) for name, term in terms.items()])


class LimitsTest(unittest.TestCase):
    def setUp(self):
        self.begin = time.process_time()

    def tearDown(self):
        self.assertLess(time.process_time() - self.begin, SOON)

    def test_rules_of_eight_parts(self):
        rng = seeded(1)
        for number in range(12):
            waits = [rng.randint(-LONG_WAIT, LONG_WAIT) for _ in range(8)]
            rule = Rule(("rank", 4, [("of", SIX[at % 6], wait) for at, wait in enumerate(waits)]))
            if number > 3:
                rule = random_rule(rng, 8, SIX, (), LONG_WAIT)
            hours = random_hours(rng, SIX, 10 ** 29)
            self.assertIn(told(rule, hours), [hours[name] + wait for row in telling(rule, hours) for name, wait in row])
            self.assertTrue(alike(of_columns(columns(rule)), rule))
            self.assertEqual(reasons(rule, rule)[0], "never")
            for row in rows(rule):
                alone(rule, row)
            slack(rule)
            self.assertTrue(alike(lean(rule), rule))

    def test_many_choices(self):
        # All choices taken at once: 8 of each of 8 lasts of 8 parts.
        terms = [("first", [("of", SIX[at % 6], at * step) for at in range(8)]) for step in range(1, 9)]
        self.assertEqual(matters(Rule(("last", terms))), SIX)
        wide = Rule(("rank", 10, [("of", SIX[at % 6], at * at) for at in range(20)]))
        self.assertTrue(alike(of_rows(rows(wide)), wide))

    def test_put_in_again_and_again(self):
        rule = Rule(("rank", 2, [("of", "a", 1), ("of", "b", 0), ("of", "c", -1)]))
        table = {"a": rule, "b": mirrored(rule), "c": rule}
        for _ in range(3):
            rule = put_in(rule, table)
        self.assertTrue(alike(of_columns(columns(rule)), rule))

    def test_forty_rows_of_six_names(self):
        rng = seeded(2)
        some = []
        for _ in range(40):
            waits = [rng.randint(0, 10 ** 6) for _ in SIX]
            some.append([(name, wait - sum(waits) // 6) for name, wait in zip(SIX, waits)])
        rule = of_rows(some)
        self.assertEqual(rows(rule), sorted(some))
        self.assertTrue(len(columns(rule)) > 1000)
        self.assertEqual(len(slack(rule)), 240)
        self.assertIsNone(parting(rule, of_rows(some[::-1])))
        stairs = [[(SIX[2 * at], step), (SIX[2 * at + 1], -step)] for at in range(3) for step in range(13)]
        self.assertEqual(len(columns(of_rows(stairs))), 14 ** 3)
        self.assertEqual(len(rows(of_columns(stairs))), 14 ** 3)

    def test_books_of_five_scribes(self):
        for terms in [FIVE, FIVE_MORE]:
            book = book_of(terms)
            bare = flat(book)
            late = after(book, 2)
            hours = {"a": 10 ** 29, "b": -5, "c": 10 ** 29 - 300, "d": 10 ** 29 + 400, "e": 17}
            self.assertEqual(hours_behind(late, hours), hours_behind(book, hours_behind(bare, hours)))
            self.assertTrue(alike_books(book, bare))
            self.assertEqual(alike_from(book, bare, 2), 1)

    def test_parting_books_of_five_scribes(self):
        book = book_of(FIVE)
        other = book.changed("e", Rule(("rank", 3, FIVE["e"][2])))
        value = parting_after(book, other, 2)
        self.assertTrue(check_parting_after(book, other, 2, value))
        self.assertIsNone(alike_from(book, other, 2))

    def test_books_of_three_scribes(self):
        book = book_of(THREE)
        late = after(book, 3)
        hours = {"a": 10 ** 29, "b": 10 ** 29 - 120, "c": 10 ** 29 + 90}
        self.assertEqual(hours_behind(late, hours), hours_behind(book, hours_behind(book, hours_behind(book, hours))))
        self.assertIsNone(parting_after(book, flat(book), 3))

    def test_returned_books_of_forty_rows(self):
        rng = seeded(3)
        names = "abcde"
        rules = []
        for name in names:
            some = [[(other, rng.randint(0, 40)) for other in names] for _ in range(160)]
            rules.append((name, of_rows([row for row in some if 90 < sum(wait for _, wait in row) < 110][:40])))
        book = Book(rules)
        self.assertEqual([len(rows(rule)) for _, rule in rules], [39, 40, 40, 40, 40])
        hours = random_hours(rng, names, 50)
        self.assertEqual(hours_behind(then(book, book), hours), hours_behind(book, hours_behind(book, hours)))

    def test_time_does_not_grow_with_numbers(self):
        for scale in [1, 10 ** 9, 10 ** 27]:
            terms = {name: ("rank", term[1], [(word, other, wait * scale) for word, other, wait in term[2]])
                     for name, term in FIVE.items()}
            self.assertEqual(len(rows(after(book_of(terms), 2).rule("b"))), 156)


if __name__ == "__main__":
    unittest.main()
