"""Points 50 to 55: books."""

import itertools
import unittest

from leafwaits.books import Book, after, alike_books, alike_from, beside, check_parting_after, flat, hours_behind
from leafwaits.books import now_ring, parting_after, renamed, then, turned_about
from leafwaits.errors import InvalidCount, InvalidHours, InvalidName, InvalidNames, InvalidRule, InvalidRules
from leafwaits.errors import StillNeeded, TakenName, UnknownName, Unlike
from leafwaits.rows import of_rows, rows
from leafwaits.rules import Rule, mirrored, named
from support import any_objects, behind_by_definition, random_book, random_hours, rounds_by_definition, seeded

LONG = 10 ** 29 + 7


def of(name, wait=0):
    return Rule(("of", name, wait))


def now(name, wait=0):
    return Rule(("now", name, wait))


def hanging(*names):
    return Rule(("last", [("now", name, 0) for name in names]))


def books(number, many=40, names="abc", parts=4, waits=4):
    rng = seeded(number)
    return [(random_book(rng, names, parts, waits), rng) for _ in range(many)]


def is_in_form(book):
    return all(book.rule(name) == of_rows(rows(book.rule(name))) for name in book.names())


class BookTest(unittest.TestCase):
    ann = Rule(("last", [("of", "bob", 2), ("now", "cy", 0)]))
    book = Book([("cy", of("ann", 3)), ("ann", ann), ("bob", of("bob"))])

    def test_names_and_rules(self):
        self.assertEqual(self.book.names(), ["ann", "bob", "cy"])
        self.assertEqual(len(self.book), 3)
        self.assertTrue(self.book.rule("cy") == of("ann", 3))
        self.assertTrue(self.book.rule(name="bob") == of("bob"))
        self.book.names().clear()
        self.assertEqual(len(self.book.names()), 3)
        for value in any_objects() + ["cyy", "c", ["cy"]]:
            if value not in ["ann", "bob"] or not isinstance(value, str):
                with self.assertRaises(UnknownName) as caught:
                    self.book.rule(value)
                self.assertIs(caught.exception.value, value)

    def test_lists_are_kept_apart(self):
        pairs = [("ann", of("ann"))]
        book = Book(rules=pairs)
        pairs.append(("bob", of("bob")))
        self.assertEqual(book.names(), ["ann"])

    def test_no_books(self):
        wrong = [value for value in any_objects() if not (isinstance(value, list) and len(value) == 1
                 and value[0] == ("ann", of("ann", 1)))]
        self.assertEqual(len(any_objects()) - len(wrong), 1)
        wrong += [[("ann", of("bob"))], [("ann", now("bob")), ("cy", of("cy"))], [("ann", now("ann"))],
                  [("ann", now("bob")), ("bob", now("ann"))], [("ann", of("ann")), ("ann", of("ann", 1))],
                  [("Ann", of("ann"))], [("ann", of("ann"), 1)], [("ann",)], [("ann", ("of", "ann", 0))],
                  [("ann", hanging("bob")), ("bob", hanging("cy")), ("cy", hanging("dan", "ann")), ("dan", of("ann"))],
                  {"ann": of("ann")}, [["ann", of("ann")]], [("ann", None)], [(["ann"], of("ann"))]]
        for value in wrong:
            with self.assertRaises(InvalidRules) as caught:
                Book(value)
            self.assertIs(caught.exception.value, value)

    def test_equal(self):
        pairs = [(name, self.book.rule(name)) for name in self.book.names()]
        for order in itertools.permutations(pairs):
            self.assertTrue(Book(list(order)) == self.book)
            self.assertFalse(Book(list(order)) != self.book)
        self.assertFalse(self.book == Book(pairs[:2] + [("cy", of("ann", 4))]))
        self.assertFalse(Book([("ann", of("ann"))]) == Book([("bob", of("bob"))]))
        self.assertFalse(Book(pairs + [("dan", of("ann"))]) == self.book)
        for value in any_objects() + [pairs, dict(pairs)]:
            self.assertFalse(self.book == value)

    def test_changed(self):
        changed = self.book.changed(name="bob", rule=Rule(("first", [("now", "cy", 1), ("now", "ann", 1)])))
        self.assertEqual(changed.names(), self.book.names())
        self.assertTrue(changed.rule("bob") == Rule(("first", [("now", "cy", 1), ("now", "ann", 1)])))
        self.assertTrue(self.book.rule("bob") == of("bob"))
        self.assertTrue(changed.rule("cy") == self.book.rule("cy"))
        for rule in [of("dan"), now("bob"), now("dan")]:
            with self.assertRaises(InvalidRule) as caught:
                self.book.changed("bob", rule)
            self.assertIs(caught.exception.value, rule)
        with self.assertRaises(InvalidRule):
            self.book.changed("cy", now("ann"))
        for name in ["dan", None, [], True]:
            with self.assertRaises(UnknownName) as caught:
                self.book.changed(name, None)
            self.assertIs(caught.exception.value, name)
        for value in any_objects():
            if not isinstance(value, Rule):
                with self.assertRaises(InvalidRule) as caught:
                    self.book.changed("bob", value)
                self.assertIs(caught.exception.value, value)

    def test_with_scribe(self):
        more = self.book.with_scribe(name="abe", rule=Rule(("last", [("of", "abe", 1), ("now", "ann", 1)])))
        self.assertEqual(more.names(), ["abe", "ann", "bob", "cy"])
        self.assertEqual(len(self.book), 3)
        for name in ["Abe", "", "abcdefghi", None, ["abe"], 1]:
            with self.assertRaises(InvalidName) as caught:
                self.book.with_scribe(name, None)
            self.assertIs(caught.exception.value, name)
        with self.assertRaises(TakenName) as caught:
            self.book.with_scribe("bob", None)
        self.assertEqual(caught.exception.value, "bob")
        for rule in [None, of("eve"), now("abe"), now("eve"), ("of", "ann", 1), self.book]:
            with self.assertRaises(InvalidRule) as caught:
                self.book.with_scribe("abe", rule)
            self.assertIs(caught.exception.value, rule)

    def test_without(self):
        alone = Book([("ann", of("ann", 1)), ("bob", now("ann")), ("cy", of("cy"))])
        self.assertEqual(alone.without("cy").names(), ["ann", "bob"])
        self.assertEqual(alone.without(name="bob").without("ann").names(), ["cy"])
        self.assertEqual(len(alone), 3)
        for book, name in [(alone, "ann"), (self.book, "ann"), (self.book, "bob"), (self.book, "cy"),
                           (Book([("ann", of("ann"))]), "ann")]:
            with self.assertRaises(StillNeeded) as caught:
                book.without(name)
            self.assertIs(caught.exception.value, name)
        for name in ["dan", None, {}, 0]:
            with self.assertRaises(UnknownName) as caught:
                alone.without(name)
            self.assertIs(caught.exception.value, name)


def ring_by_trying(rules):
    table = dict(rules)
    for many in range(1, len(rules) + 1):
        for ring in itertools.permutations(sorted(table), many):
            following = ring[1:] + ring[:1]
            if all(after in named(table[name])[1] for name, after in zip(ring, following)):
                return list(ring)
    return None


class RingTest(unittest.TestCase):
    def test_by_trying(self):
        rng = seeded(1)
        none = 0
        for _ in range(400):
            names = rng.sample("abcdefg", rng.randint(1, 5))
            rules = [(name, hanging(*rng.choices("abcdefg", k=rng.randint(1, 2)))) for name in names]
            ring = now_ring(rules)
            self.assertEqual(ring, ring_by_trying(rules))
            none += ring is None
        self.assertTrue(0 < none < 400)

    def test_examples(self):
        self.assertEqual(now_ring(rules=[("b", now("a")), ("a", now("b")), ("c", now("c"))]), ["c"])
        self.assertEqual(now_ring([("d", now("c")), ("c", now("d")), ("b", now("a")), ("a", now("b"))]), ["a", "b"])
        self.assertEqual(now_ring([("a", hanging("c", "b")), ("b", now("a")), ("c", now("a"))]), ["a", "b"])
        self.assertEqual(now_ring([("b", now("c")), ("c", now("d")), ("d", now("b"))]), ["b", "c", "d"])
        self.assertIsNone(now_ring([("a", now("z")), ("b", of("b"))]))
        self.assertIsNone(now_ring([("a", of("a")), ("b", now("a"))]))

    def test_no_lists(self):
        wrong = [value for value in any_objects() if not (isinstance(value, list) and len(value) == 1
                 and isinstance(value[0], tuple) and isinstance(value[0][-1], Rule))]
        wrong += [[("a", of("a")), ("a", now("b"))], [("A", of("a"))], [("a", of("a")), None], (("a", of("a")),),
                  [("a", of("a")), ("B", of("a"))], [("a", of("a")), ("b", ("of", "a", 0))]]
        for value in wrong:
            with self.assertRaises(InvalidRules) as caught:
                now_ring(value)
            self.assertIs(caught.exception.value, value)


class RoundsTest(unittest.TestCase):
    def test_hours_behind(self):
        for book, rng in books(2) + books(3, 20, "abcde"):
            hours = random_hours(rng, book.names())
            self.assertEqual(hours_behind(book, hours), behind_by_definition(book, hours))
            self.assertEqual(hours_behind(book=book, hours=dict(hours, zed=4)), behind_by_definition(book, hours))

    def test_hours(self):
        book = Book([("a", of("a", LONG)), ("b", now("a", -LONG))])
        hours = {"b": -LONG, "a": LONG}
        got = hours_behind(book, hours)
        self.assertEqual(got, {"a": 2 * LONG, "b": LONG})
        got.clear()
        self.assertEqual(hours, {"b": -LONG, "a": LONG})
        wrong = [{"a": 1}, {"a": 1, "b": True}, {"a": 1, "b": 1, "C": 1}, {"a": 1, "b": 1, "c": None}, [("a", 1)]]
        for value in wrong + any_objects():
            with self.assertRaises(InvalidHours) as caught:
                hours_behind(book, value)
            self.assertIs(caught.exception.value, value)

    def test_flat(self):
        for book, rng in books(4) + books(5, 20, "abcd"):
            bare = flat(book=book)
            self.assertTrue(is_in_form(bare))
            self.assertTrue(flat(bare) == bare)
            for _ in range(5):
                hours = random_hours(rng, book.names())
                self.assertEqual(hours_behind(bare, hours), behind_by_definition(book, hours))

    def test_then(self):
        rng = seeded(6)
        for _ in range(40):
            one, other = random_book(rng, "abc"), random_book(rng, "abc")
            both = then(one=one, other=other)
            self.assertTrue(is_in_form(both))
            for _ in range(5):
                hours = random_hours(rng, "abc")
                self.assertEqual(hours_behind(both, hours), rounds_by_definition(other, rounds_by_definition(one, hours, 1), 1))

    def test_after(self):
        for book, rng in books(7, 25):
            self.assertTrue(after(book, 1) == flat(book))
            self.assertTrue(after(book, 2) == then(book, book))
            for many in [2, 3]:
                late = after(book=book, many=many)
                self.assertTrue(is_in_form(late))
                for _ in range(3):
                    hours = random_hours(rng, book.names())
                    self.assertEqual(hours_behind(late, hours), rounds_by_definition(book, hours, many))
        for many in [0, -1, True, False, None, "1", [1]]:
            with self.assertRaises(InvalidCount) as caught:
                after(book, many)
            self.assertIs(caught.exception.value, many)


class MadeBooksTest(unittest.TestCase):
    def test_beside(self):
        one, other = Book([("b", of("b")), ("a", now("b"))]), Book([("c", of("d")), ("d", now("c", 4))])
        both = beside(one=one, other=other)
        self.assertEqual(both.names(), ["a", "b", "c", "d"])
        for book in [one, other]:
            for name in book.names():
                self.assertTrue(both.rule(name) == book.rule(name))
        one = Book([("z", of("z")), ("c", of("c")), ("e", of("c"))])
        with self.assertRaises(TakenName) as caught:
            beside(one, Book([("e", of("c")), ("c", of("z")), ("z", of("c"))]))
        self.assertEqual(caught.exception.value, "c")

    def test_renamed(self):
        book = Book([("a", Rule(("last", [("of", "b", 1), ("now", "c", 2)]))), ("b", of("a")), ("c", of("c"))])
        got = renamed(book=book, names={"a": "b", "b": "zed", "zed": "a", "q": "q"})
        self.assertTrue(got == Book([("b", Rule(("last", [("of", "zed", 1), ("now", "c", 2)]))), ("zed", of("b")),
                                     ("c", of("c"))]))
        self.assertTrue(renamed(book, {}) == book)
        self.assertTrue(renamed(book, {"y": "z", "z": "y"}) == book)
        rng = seeded(8)
        for _ in range(30):
            book, names = random_book(rng, "abc"), dict(zip("abcd", rng.sample("abcd", 4)))
            hours = random_hours(rng, "abc")
            moved = hours_behind(renamed(book, names), {names[name]: hour for name, hour in hours.items()})
            self.assertEqual(moved, {names[name]: hour for name, hour in hours_behind(book, hours).items()})

    def test_no_renaming(self):
        book = Book([("ann", of("bob")), ("bob", of("ann"))])
        wrong = [value for value in any_objects() if not (isinstance(value, dict) and value in [{}, {"ann": "ann"}])]
        wrong += [{"ann": "bob"}, {"ann": "bob", "bob": "bob"}, {"ann": "cy", "bob": "ann"}, {"ann": ["bob"]},
                  {"ann": "Ann", "Ann": "ann"}, {1: 1}, {"ann": None, None: "ann"}, [("ann", "ann")],
                  {1: "ann", "ann": "bob"}, {("ann",): "ann", "ann": "bob"}]
        for value in wrong:
            with self.assertRaises(InvalidNames) as caught:
                renamed(book, value)
            self.assertIs(caught.exception.value, value)

    def test_turned_about(self):
        for book, rng in books(9):
            turned = turned_about(book=book)
            self.assertEqual(turned.names(), book.names())
            hours = random_hours(rng, book.names())
            other = {name: -hour for name, hour in hours.items()}
            behind = {name: -hour for name, hour in hours_behind(book, hours).items()}
            self.assertEqual(hours_behind(turned, other), behind)
            for name in book.names():
                self.assertTrue(turned.rule(name) == mirrored(book.rule(name)))
            self.assertTrue(turned_about(turned) == book)


class AlikeBooksTest(unittest.TestCase):
    def like_books(self, number):
        rng = seeded(number)
        found = []
        for _ in range(40):
            one, other = random_book(rng, "ab", 3, 1), random_book(rng, "ab", 3, 1)
            found.extend([(one, other), (one, flat(one)), (one, one.changed("a", one.rule("a")))])
        return found

    def test_alike_books(self):
        answers = {}
        for one, other in self.like_books(10):
            self.assertIs(alike_books(one=one, other=other), flat(one) == flat(other))
            answers[alike_books(one, other)] = True
        self.assertEqual(len(answers), 2)

    def test_parting_after(self):
        answers = {}
        for one, other in self.like_books(11):
            for many in [1, 2, 3]:
                value = parting_after(one=one, other=other, many=many)
                self.assertEqual(value is None, after(one, many) == after(other, many))
                answers[value is None] = True
                if value is not None:
                    name, hours = value
                    self.assertEqual(sorted(hours), one.names())
                    self.assertNotEqual(rounds_by_definition(one, hours, many)[name], rounds_by_definition(other, hours, many)[name])
                    self.assertIs(check_parting_after(one, other, many, value), True)
        self.assertEqual(len(answers), 2)

    def test_check_parting_after(self):
        one = Book([("ann", of("bob", 1)), ("bob", of("ann"))])
        other = Book([("ann", of("ann", 1)), ("bob", of("bob"))])
        self.assertIs(check_parting_after(one=one, other=other, many=1, value=("ann", {"ann": 0, "bob": LONG})), True)
        wrong = [("ann", {"ann": 0, "bob": 0}), ("ann", {"ann": 0, "bob": 1, "cy": 2}), ("cy", {"ann": 0, "bob": 1}),
                 ["ann", {"ann": 0, "bob": 1}], ("ann", {"ann": 0, "bob": True}), ("ann", {"bob": 1}), ("ann",),
                 ("ann", {"ann": 0, "bob": 1}, 1), (None, {"ann": 0, "bob": 1}), (["ann"], {"ann": 0, "bob": 1}),
                 ("ann", [("ann", 0), ("bob", 1)]), ("ann", {"ann": 0, "bob": None}), ({"ann": 0, "bob": 1}, "ann")]
        for value in wrong + any_objects():
            self.assertIs(check_parting_after(one, other, 1, value), False)
        self.assertIs(check_parting_after(one, other, 2, ("ann", {"ann": 0, "bob": 1})), True)
        self.assertIs(check_parting_after(one, other, 2, ("bob", {"ann": 0, "bob": 0})), True)

    def test_alike_from(self):
        answers = {}
        for one, other in self.like_books(12):
            same = [after(one, many) == after(other, many) for many in [1, 2, 3]]
            for most in [1, 2]:
                expected = [many for many in range(1, most + 1) if same[many - 1] and same[many]]
                answer = alike_from(one=one, other=other, most=most)
                self.assertEqual(answer, expected[0] if expected else None)
                answers[answer] = True
        self.assertIn(1, answers)
        self.assertIn(None, answers)

    def test_alike_from_two(self):
        one = Book([("a", of("b")), ("b", of("c")), ("c", of("c"))])
        other = Book([("a", of("c")), ("b", of("c")), ("c", of("c"))])
        self.assertEqual([alike_from(one, other, 1), alike_from(one, other, 2), alike_from(one, one, 2)], [None, 2, 1])

    def test_unlike_names(self):
        one, two = Book([("a", of("a"))]), Book([("b", of("b"))])
        both = Book([("a", of("a")), ("b", of("b"))])
        for other in [two, both]:
            for call in [then, alike_books, lambda x, y: parting_after(x, y, None), lambda x, y: alike_from(x, y, 0),
                         lambda x, y: check_parting_after(x, y, True, None)]:
                with self.assertRaises(Unlike) as caught:
                    call(one, other)
                self.assertIs(caught.exception.value, other)


if __name__ == "__main__":
    unittest.main()
