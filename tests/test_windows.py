"""Points 110 to 118: from which beginnings all hands fall within told windows."""

import itertools
import unittest

from leafwaits.books import Book
from leafwaits.errors import InvalidBook, InvalidHours, InvalidWindows, UnknownName
from leafwaits.rules import Rule
from leafwaits.windows import begins, boxes, common_room, ends, first_broken, keeps, room, same_windows, some_hours
from leafwaits.windows import tightest, why_none, widening
from support import any_objects, random_book, random_hours, rounds_by_definition, seeded

FAR = 10 ** 4
DUO = Book([("ann", Rule(("first", [("of", "ann", 0), ("of", "ben", 0)]))),
            ("ben", Rule(("last", [("of", "ann", 0), ("of", "ben", 1)])))])


def all_hours(book, reach):
    """Hours near one another, and some far away from them."""
    values = list(range(-reach, reach + 1)) + [-FAR, FAR]
    return [dict(zip(book.names(), chosen)) for chosen in itertools.product(values, repeat=len(book))]


def random_windows(rng, book, most_keys=4, latest=2):
    """Windows such that with waits of at most 2 no hour of an edge is more than 9 away from 0."""
    keys = list(itertools.product(range(latest + 1), book.names()))
    windows = {}
    for key in rng.sample(keys, rng.randint(0, min(most_keys, len(keys)))):
        low = rng.randint(-2, 2)
        high = low + rng.choice([0, 0, 1, 2, 3])
        windows[key] = rng.choice([(low, high), (low, None), (None, high), (low, high), (None, None)])
    return windows


def rich_book(rng, names, waits):
    """A book in which each scribe goes by all of some names in several ways."""
    rules = []
    for at, name in enumerate(names):
        word, inner = rng.choice([("first", "last"), ("last", "first")])
        terms = []
        for _ in range(rng.randint(2, 3)):
            parts = [("of", other, rng.randint(-waits, waits)) for other in names]
            if at and rng.random() < 0.3:
                parts[0] = ("now", names[0], 0)
            terms.append((inner, parts))
        rules.append((name, Rule((word, terms))))
    return Book(rules)


def cases(number, many, names="ab", reach=9, latest=2):
    """Random books, windows, and for many hours the hours of the rounds 0 to 2."""
    rng = seeded(number)
    for at in range(many):
        book = rich_book(rng, names, latest) if at % 3 else random_book(rng, names, 3, latest)
        every = [[rounds_by_definition(book, hours, round_) for round_ in range(3)] for hours in all_hours(book, reach)]
        yield rng, book, random_windows(rng, book, 4, latest), every


def in_span(hour, span, by=0):
    return (span[0] is None or span[0] - by <= hour) and (span[1] is None or hour <= span[1] + by)


def is_kept(windows, rounds, by=0):
    return all(in_span(rounds[key[0]][key[1]], span, by) for key, span in windows.items())


def not_behind(hours, edge):
    return all(edge[name] is None or hours[name] <= edge[name] for name in edge)


def not_ahead(hours, edge):
    return all(edge[name] is None or hours[name] >= edge[name] for name in edge)


def is_greater(one, other):
    return all(one[name] is None or (other[name] is not None and one[name] >= other[name]) for name in one)


class KeepsTest(unittest.TestCase):
    def test_by_rounds(self):
        for rng, book, windows, every in cases(1, 12):
            for rounds in every:
                broken = [key for key in sorted(windows) if not in_span(rounds[key[0]][key[1]], windows[key])]
                self.assertIs(keeps(book, windows, rounds[0]), not broken)
                self.assertEqual(first_broken(book, windows, dict(rounds[0], zed=3)), broken[0] if broken else None)

    def test_windows_that_ask_nothing(self):
        for windows in [{}, {(0, "ann"): (None, None)}, {(2, "ben"): (None, None), (1, "ann"): (None, None)}]:
            self.assertTrue(keeps(DUO, windows, {"ann": 10 ** 29, "ben": -5}))
            none = {"ann": None, "ben": None}
            self.assertEqual([ends(DUO, windows), begins(DUO, windows), boxes(DUO, windows)],
                             [[none], [none], [(none, none)]])
            self.assertIsNone(why_none(DUO, windows))
            self.assertEqual(sorted(some_hours(DUO, windows)), ["ann", "ben"])
            self.assertEqual(room(DUO, windows, {"ann": 1, "ben": 2}, "ben"), (None, None))
            self.assertEqual(common_room(DUO, windows, {"ann": 1, "ben": 2}), (None, None))
            self.assertEqual(tightest(DUO, windows), windows)
            self.assertIsNone(same_windows(DUO, windows, {}))
            self.assertIsNone(widening(DUO, windows))

    def test_low_equal_to_high(self):
        windows = {(0, "ann"): (3, 3), (1, "ben"): (4, 4)}
        self.assertTrue(keeps(DUO, windows, {"ann": 3, "ben": 3}))
        self.assertEqual(first_broken(DUO, windows, {"ann": 3, "ben": 4}), (1, "ben"))
        self.assertEqual(boxes(DUO, windows), [({"ann": 3, "ben": 3}, {"ann": 3, "ben": 3})])
        self.assertEqual([widening(DUO, windows), tightest(DUO, windows)], [0, windows])


class EdgesTest(unittest.TestCase):
    def check_edges(self, book, windows, every):
        highs = {key: (None, span[1]) for key, span in windows.items()}
        lows = {key: (span[0], None) for key, span in windows.items()}
        tops, bottoms = ends(book, windows), begins(book, windows)
        for rounds in every:
            self.assertEqual(is_kept(highs, rounds), any(not_behind(rounds[0], edge) for edge in tops))
            self.assertEqual(is_kept(lows, rounds), any(not_ahead(rounds[0], edge) for edge in bottoms))
        for edges in [tops, bottoms]:
            for edge in edges:
                self.assertEqual(list(edge), book.names())
        for one, other in itertools.permutations(tops, 2):
            self.assertFalse(is_greater(one, other))
        negative = [{name: None if hour is None else -hour for name, hour in edge.items()} for edge in bottoms]
        for one, other in itertools.permutations(negative, 2):
            self.assertFalse(is_greater(one, other))
        late = 10 ** 9
        self.assertEqual(tops, sorted(tops, key=lambda edge: [late if edge[name] is None else edge[name]
                                                              for name in sorted(edge)]))
        self.assertEqual(bottoms, sorted(bottoms, key=lambda edge: [-late if edge[name] is None else edge[name]
                                                                    for name in sorted(edge)]))

    def test_against_hours_one_by_one(self):
        many = []
        for _, book, windows, every in cases(2, 40):
            self.check_edges(book, windows, every)
            many += [len(ends(book, windows)), len(begins(book, windows))]
        self.assertGreater(len([number for number in many if number > 1]), 20)

    def test_three_scribes(self):
        many = []
        for _, book, windows, every in cases(3, 12, "abc", 3, 1):
            self.check_edges(book, windows, every)
            many += [len(ends(book, windows)), len(begins(book, windows))]
        self.assertGreater(max(many), 2)

    def test_boxes(self):
        for _, book, windows, every in cases(4, 20):
            found = boxes(book, windows)
            self.assertEqual(found, [(low, high) for low in begins(book, windows) for high in ends(book, windows)
                                     if all(low[name] is None or high[name] is None or low[name] <= high[name]
                                            for name in low)])
            for rounds in every:
                lies = any(not_ahead(rounds[0], low) and not_behind(rounds[0], high) for low, high in found)
                self.assertEqual(is_kept(windows, rounds), lies)


class SomeHoursTest(unittest.TestCase):
    def test_against_hours_one_by_one(self):
        answers = set()
        for _, book, windows, every in cases(5, 60):
            hours, why = some_hours(book, windows), why_none(book, windows)
            kept = any(is_kept(windows, rounds) for rounds in every)
            answers.add(kept)
            self.assertEqual([hours is not None, why is None], [kept, kept])
            if kept:
                self.assertEqual(list(hours), book.names())
                self.assertTrue(keeps(book, windows, hours))
            else:
                self.assertEqual([item[0] for item in why], ends(book, windows))
                for edge, many, name in why:
                    late = {other: FAR if hour is None else hour for other, hour in edge.items()}
                    rounds = [rounds_by_definition(book, late, at) for at in range(3)]
                    broken = [key for key in sorted(windows) if windows[key][0] is not None
                              and rounds[key[0]][key[1]] < windows[key][0]]
                    self.assertEqual((many, name), broken[0])
        self.assertEqual(answers, {True, False})


    def test_the_least_key_is_told(self):
        book = Book([("a", Rule(("of", "a", 0)))])
        windows = {(1, "a"): (5, None), (0, "a"): (4, None), (2, "a"): (None, 1)}
        self.assertEqual(why_none(book, windows), [({"a": 1}, 0, "a")])
        self.assertEqual(first_broken(book, windows, {"a": 3}), (0, "a"))
        self.assertEqual(why_none(DUO, {(1, "ben"): (9, None), (0, "ben"): (7, None), (0, "ann"): (None, 1), (1, "ann"): (3, 4)}),
                         [({"ann": 1, "ben": None}, 1, "ann")])


class RoomTest(unittest.TestCase):
    def span_of(self, values, steps):
        """The span of some values of a list that reaches from -FAR to FAR; it has no gaps."""
        if not values:
            return None
        self.assertEqual(values, steps[steps.index(values[0]):steps.index(values[-1]) + 1])
        return (None if values[0] == -FAR else values[0], None if values[-1] == FAR else values[-1])

    def test_against_hours_one_by_one(self):
        rng = seeded(6)
        answers = []
        for number in range(150):
            names = "abc"[:rng.randint(1, 3)]
            book = rich_book(rng, names, 3) if number % 2 else random_book(rng, names, 3, 2)
            windows = random_windows(rng, book)
            hours = random_hours(rng, book.names(), 5)
            steps = [-FAR] + list(range(-25, 26)) + [FAR]
            for name in book.names():
                kept = [hour for hour in steps if keeps(book, windows, dict(hours, **{name: hour}))]
                answers.append(self.span_of(kept, steps))
                self.assertEqual(room(book, windows, dict(hours, zed=1), name), answers[-1])
                self.assertEqual(room(book, windows, dict(hours, **{name: 10 ** 29}), name), answers[-1])
            kept = [by for by in steps if keeps(book, windows, {name: hour + by for name, hour in hours.items()})]
            self.assertEqual(common_room(book, windows, hours), self.span_of(kept, steps))
        self.assertIn(None, answers)
        self.assertIn((None, None), answers)

    def test_errors(self):
        windows = {(0, "ann"): (1, 2)}
        with self.assertRaises(InvalidHours):
            room(DUO, windows, {"ann": 1}, "cy")
        for value in [None, "cy", ["ann"], "Ann"]:
            with self.assertRaises(UnknownName) as caught:
                room(DUO, windows, {"ann": 1, "ben": 2}, value)
            self.assertIs(caught.exception.value, value)


class TightestTest(unittest.TestCase):
    def test_against_hours_one_by_one(self):
        answers = set()
        for _, book, windows, every in cases(7, 60):
            kept = [rounds for rounds in every if is_kept(windows, rounds)]
            found = tightest(book, windows)
            answers.add(bool(kept))
            if not kept:
                self.assertIsNone(found)
                continue
            self.assertEqual(sorted(found), sorted(windows))
            for key, (low, high) in found.items():
                hours = [rounds[key[0]][key[1]] for rounds in kept]
                self.assertEqual(low, None if min(hours) < -FAR // 2 else min(hours))
                self.assertEqual(high, None if max(hours) > FAR // 2 else max(hours))
            self.assertIsNone(same_windows(book, windows, found))
            self.assertEqual(tightest(book, found), found)
        self.assertEqual(answers, {True, False})


class SameWindowsTest(unittest.TestCase):
    def test_against_hours_one_by_one(self):
        answers = set()
        for rng, book, one, every in cases(8, 70):
            other = dict(one)
            for key, span in random_windows(rng, book, 2).items():
                other[key] = span
            if rng.random() < 0.4:
                other = tightest(book, one) or other
            for some, others in [(one, other), (other, one)]:
                hours = same_windows(book, some, others)
                unlike = any(is_kept(some, rounds) != is_kept(others, rounds) for rounds in every)
                answers.add(unlike)
                self.assertEqual(hours is not None, unlike)
                self.assertEqual(boxes(book, some) == boxes(book, others), hours is None)
                if unlike:
                    self.assertEqual(list(hours), book.names())
                    self.assertNotEqual(keeps(book, some, hours), keeps(book, others, hours))
        self.assertEqual(answers, {True, False})

    def test_errors(self):
        for value in [None, {"ann": (1, 2)}, {(0, "cy"): (1, 2)}, {(3, "ann"): (None, None)}]:
            with self.assertRaises(InvalidWindows) as caught:
                same_windows(DUO, value, None)
            self.assertIs(caught.exception.value, value)
            with self.assertRaises(InvalidWindows) as caught:
                same_windows(DUO, {}, value)
            self.assertIs(caught.exception.value, value)


class WideningTest(unittest.TestCase):
    def test_against_hours_one_by_one(self):
        answers = []
        for _, book, windows, every in cases(9, 60):
            found = [by for by in range(-12, 13) if any(is_kept(windows, rounds, by) for rounds in every)]
            # An hour that has no room but far away from all others could have any: then no number is the least.
            right = None if -12 in found else found[0]
            answers.append(right)
            self.assertEqual(widening(book, windows), right)
            self.assertEqual(some_hours(book, windows) is not None, right is None or right <= 0)
        self.assertTrue(any(right is not None and right < 0 for right in answers))
        self.assertTrue(any(right is not None and right > 0 for right in answers))
        self.assertIn(None, answers)

    def test_half_is_rounded_up(self):
        book = Book([("a", Rule(("of", "a", 0)))])
        for low, high, by in [(0, 5, -2), (0, 4, -2), (0, 3, -1), (0, 0, 0), (0, 1, 0)]:
            self.assertEqual(widening(book, {(0, "a"): (low, high)}), by)
        for low, high, by in [(5, 0, 3), (4, 0, 2), (1, 0, 1), (0, 0, 0), (-5, 0, -2), (-10 ** 29, 10 ** 29, -10 ** 29)]:
            self.assertEqual(widening(book, {(0, "a"): (low, None), (1, "a"): (None, high)}), by)


class WrongWindowsTest(unittest.TestCase):
    WRONG = [None, [], {"ann": (1, 2)}, {(0,): (1, 2)}, {(0, "ann", 1): (1, 2)}, {(3, "ann"): (1, 2)},
             {(-1, "ann"): (1, 2)}, {(True, "ann"): (1, 2)}, {(0, "cy"): (1, 2)}, {(0, "Ann"): (1, 2)},
             {(0, "ann"): [1, 2]}, {(0, "ann"): (1,)}, {(0, "ann"): (1, 2, 3)}, {(0, "ann"): (2, 1)},
             {(0, "ann"): (True, 2)}, {(0, "ann"): (1, "2")}, {(0, "ann"): None}, {0: (1, 2)}, {None: None},
             {(0, "ann"): (1, 2), (7, "ben"): (None, None)}, {("ann", 0): (1, 2)}, {(10 ** 30, "ann"): (None, 2)}]

    RIGHT = ["{}", "{(0, 'ann'): (1, 2)}"]

    def test_each_function(self):
        calls = [(keeps, [None]), (first_broken, [None]), (ends, []), (begins, []), (boxes, []), (some_hours, []),
                 (why_none, []), (room, [None, None]), (common_room, [None]), (tightest, []), (same_windows, [None]),
                 (widening, [])]
        for call, others in calls:
            for value in self.WRONG + [value for value in any_objects() if repr(value) not in self.RIGHT]:
                with self.assertRaises(InvalidWindows) as caught:
                    call(DUO, value, *others)
                self.assertIs(caught.exception.value, value)
            for value in [None, [("ann", 1)], {}, "ann"]:
                with self.assertRaises(InvalidBook) as caught:
                    call(value, None, *others)
                self.assertIs(caught.exception.value, value)

    def test_hours_are_looked_at_behind_windows(self):
        for call, others in [(keeps, []), (first_broken, []), (room, [None]), (common_room, [])]:
            for value in [None, {"ann": 1}, {"ann": 1, "ben": True}, {"ann": 1, "ben": 2, 3: 4}]:
                with self.assertRaises(InvalidHours) as caught:
                    call(DUO, {}, value, *others)
                self.assertIs(caught.exception.value, value)


if __name__ == "__main__":
    unittest.main()
