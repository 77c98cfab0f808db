"""Points 80 to 87: who can make whom late."""

import itertools
import unittest

from leafwaits.books import Book, after, flat, turned_about
from leafwaits.errors import InvalidBook, InvalidCount, InvalidHours, InvalidLates, InvalidNames, InvalidWhole
from leafwaits.errors import UnknownName
from leafwaits.late import can_ever, held_late, is_can_ever, late_at, late_hours, late_stair, least_late, most_late
from leafwaits.late import reached, stopping
from leafwaits.latebook import late_after
from leafwaits.rows import matters
from leafwaits.rules import Rule, parts, told, waited
from leafwaits.terms import rebuilt
from support import any_objects, random_book, random_hours, random_rule, rounds_by_definition, seeded
from support import told_by_definition

LONG = 10 ** 12 - 1
# In these books waits are from -1 to 1: whoever hands 50 later than others, or earlier, is endlessly so.
NEAR_AND_FAR = list(range(-4, 5)) + [50] + list(range(-54, -45))


def of(name, wait=0):
    return Rule(("of", name, wait))


def now(name, wait=0):
    return Rule(("now", name, wait))


WAYS = [("last", [("of", "bob", 0), ("of", "cat", 0)]), ("last", [("of", "bob", -3), ("of", "cat", 5)]), ("of", "cat", 7)]
BOOK = Book([("ann", Rule(("first", WAYS))), ("bob", of("bob", 1)), ("cat", of("cat", 1))])
HOURS = {"ann": 0, "bob": 0, "cat": 0}


def in_order(book):
    """The names, each behind all those on which it hangs."""
    order = []
    while len(order) < len(book):
        for name in book.names():
            hung = [part[1] for _, part in parts(book.rule(name)) if part[0] == "now"]
            if name not in order and all(other in order for other in hung):
                order.append(name)
    return [(name, book.rule(name).term()) for name in order]


def held_round(turns, hours, held):
    this = {}
    for name, term in turns:
        this[name] = held[name] if name in held else told_by_definition(term, hours, this)
    return this


def lateness(turns, lates, many, held, hours):
    """How late each scribe is in a round if some are held in the rounds ahead of it."""
    late = {name: hour + lates.get(name, 0) for name, hour in hours.items()}
    for number in range(1, many + 1):
        hours = held_round(turns, hours, {})
        late = held_round(turns, late, {name: hours[name] for name in held} if number < many else {})
    return {name: late[name] - hours[name] for name in hours}


def all_lateness(book, lates, many, held=()):
    """How late each scribe is at each of many hours of the beginning."""
    turns = in_order(book)
    names = book.names()
    found = []
    for rest in itertools.product(NEAR_AND_FAR, repeat=len(names) - 1):
        found.append(lateness(turns, lates, many, held, dict(zip(names, (0,) + rest))))
    return found


def small_books(number, many, names="abc", parts_of_each=4):
    rng = seeded(number)
    return [(random_book(rng, names, parts_of_each, 1), rng) for _ in range(many)]


def some_lates(rng, names="abc", most=3):
    return {name: rng.randint(-most, most) for name in names if rng.random() < 0.7}


class LateAtTest(unittest.TestCase):
    def test_by_definition(self):
        rng = seeded(1)
        for _ in range(80):
            book = random_book(rng, rng.choice(["a", "abc", "abcde"]))
            hours, lates = random_hours(rng, book.names()), some_lates(rng, book.names(), 9)
            many = rng.randint(0, 5)
            late = {name: hour + lates.get(name, 0) for name, hour in hours.items()}
            ahead, behind = rounds_by_definition(book, hours, many), rounds_by_definition(book, late, many)
            got = late_at(book=book, lates=lates, hours=dict(hours, zed=3), many=many)
            self.assertEqual(got, {name: behind[name] - ahead[name] for name in book.names()})
            bounds = [lates.get(name, 0) for name in book.names()]
            self.assertTrue(all(min(bounds) <= by <= max(bounds) for by in got.values()))

    def test_no_lates_and_no_rounds(self):
        self.assertEqual(late_at(BOOK, {}, HOURS, 9), HOURS)
        self.assertEqual(late_at(BOOK, {"bob": 0}, HOURS, 1), HOURS)
        self.assertEqual(late_at(BOOK, {"bob": -LONG, "ann": 4}, HOURS, 0), {"ann": 4, "bob": -LONG, "cat": 0})
        self.assertEqual(late_at(BOOK, {"bob": LONG}, HOURS, 30), {"ann": 7, "bob": LONG, "cat": 0})

    def test_hours_are_kept_apart(self):
        lates, hours = {"bob": 9}, dict(HOURS)
        late_at(BOOK, lates, hours, 0).clear()
        late_at(BOOK, lates, hours, 2).clear()
        self.assertEqual((lates, hours), ({"bob": 9}, HOURS))


class MostTest(unittest.TestCase):
    def test_hours_one_by_one(self):
        for book, rng in small_books(2, 30) + small_books(3, 20, "ab", 5):
            lates, many = some_lates(rng, book.names()), rng.randint(1, 3)
            every = all_lateness(book, lates, many)
            for name in book.names():
                told_late = [late[name] for late in every]
                self.assertEqual(most_late(book=book, lates=lates, name=name, many=many), max(told_late))
                self.assertEqual(least_late(book=book, lates=lates, name=name, many=many), min(told_late))

    def test_by_the_late_book(self):
        rng = seeded(4)
        for _ in range(40):
            book = random_book(rng, "abcd", 4, 9)
            lates, many = some_lates(rng, "abcd", 12), rng.randint(1, 2)
            late, turned = late_after(book, many), late_after(turned_about(book), many)
            for name in "abcd":
                all_lates = {other: lates.get(other, 0) for other in "abcd"}
                self.assertEqual(most_late(book, lates, name, many), told(late.rule(name), all_lates))
                all_lates = {other: -late for other, late in all_lates.items()}
                self.assertEqual(least_late(book, lates, name, many), -told(turned.rule(name), all_lates))

    def test_either_sign_none_and_long_ones(self):
        self.assertEqual([most_late(BOOK, lates, "ann", 1) for lates in [{}, {"bob": 0}, {"ann": 5}]], [0, 0, 0])
        self.assertEqual([least_late(BOOK, lates, "ann", 1) for lates in [{}, {"bob": 0}, {"ann": -5}]], [0, 0, 0])
        self.assertEqual(most_late(BOOK, {"bob": LONG, "cat": LONG}, "ann", 3), LONG)
        self.assertEqual(least_late(BOOK, {"bob": LONG, "cat": LONG}, "ann", 3), LONG)
        self.assertEqual(least_late(BOOK, {"bob": -LONG, "cat": -LONG}, "ann", 2), -LONG)
        self.assertEqual(least_late(BOOK, {"bob": -LONG}, "ann", 1), -7)
        self.assertEqual([most_late(BOOK, {"bob": late, "cat": 3}, "ann", 1) for late in [-9, 0, 3, 7, 9, 30]],
                         [3, 3, 3, 7, 8, 10])


class LateHoursTest(unittest.TestCase):
    def test_each_number(self):
        rng = seeded(5)
        asked = 0
        for _ in range(40):
            book = random_book(rng, "abcd", 4, 6)
            lates, many, name = some_lates(rng, "abcd", 12), rng.randint(1, 2), rng.choice("abcd")
            least, most = least_late(book, lates, name, many), most_late(book, lates, name, many)
            for number in range(least, most + 1):
                hours = late_hours(book=book, lates=lates, name=name, many=many, number=number)
                self.assertEqual(sorted(hours), book.names())
                self.assertEqual(late_at(book, lates, hours, many)[name], number)
                asked += number not in (least, most)
            for number in [least - 1, most + 1, -10 ** 30, 10 ** 30]:
                self.assertIsNone(late_hours(book, lates, name, many, number))
        self.assertGreater(asked, 100)

    def test_long_lates(self):
        middle = Rule(("rank", 2, [("of", "a", LONG), ("of", "b", 0), ("of", "c", -5)]))
        book, lates = Book([("a", of("a")), ("b", of("b", 7)), ("c", of("c")), ("d", middle)]), {"b": LONG, "c": -LONG}
        self.assertEqual((least_late(book, lates, "d", 2), most_late(book, lates, "d", 2)), (-LONG, LONG))
        for number in [-LONG, 1 - LONG, -LONG // 3, 0, 1, 6, LONG // 7, LONG - 1, LONG]:
            hours = late_hours(book, lates, "d", 2, number)
            self.assertEqual(late_at(book, lates, hours, 2)["d"], number)
        self.assertIsNone(late_hours(book, lates, "d", 2, LONG + 1))
        self.assertIsNone(late_hours(book, lates, "d", 2, -LONG - 1))
        late_hours(book, lates, "d", 2, 7).clear()
        self.assertEqual(late_at(book, lates, late_hours(book, lates, "d", 2, 7), 2)["d"], 7)


class LateStairTest(unittest.TestCase):
    def test_count_by_count(self):
        rng = seeded(6)
        turned, ended, risen = 0, 0, 0
        for _ in range(150):
            names = rng.choice(["ab", "abc", "abcd"])
            book = random_book(rng, names, 6 if len(names) < 4 else 4, 6)
            who, name, many = rng.choice(names), rng.choice(names), rng.randint(1, 2)
            stair = late_stair(book=book, who=who, name=name, many=many)
            for count in list(range(30)) + [LONG, 10 ** 29]:
                self.assertEqual(stair.value(count), most_late(book, {who: count}, name, many))
            self.assertEqual(stair.begin, 0)
            turned += len(stair.corners) > 2
            ended += stair.end() is not None
            risen += stair.corners == [0]
        self.assertTrue(turned > 0 and ended > 20 and risen > 20)

    def test_more_than_once_later_again(self):
        rng = seeded(7)
        longest = 0
        for _ in range(60):
            low, high, some = 0, 0, []
            for _ in range(rng.randint(2, 6)):
                some.append(("last", [("of", "a", -low), ("of", "b", high), ("of", "c", rng.randint(-3, 3))]))
                low, high = low + rng.randint(1, 6), high + rng.randint(1, 6)
            if rng.random() < 0.5:
                some.append(("of", "b", high))
            book = Book([(name, Rule(("first", some)) if name == "d" else of(name)) for name in "abcd"])
            for who in "abc":
                stair = late_stair(book, who, "d", 1)
                for count in range(50):
                    self.assertEqual(stair.value(count), most_late(book, {who: count}, "d", 1))
                longest = max(longest, len(stair.corners))
        self.assertGreater(longest, 5)

    def test_nobody(self):
        self.assertEqual(late_stair(BOOK, "ann", "ann", 1).corners, [])
        self.assertEqual(late_stair(BOOK, "bob", "cat", 3).corners, [])
        self.assertEqual(late_stair(BOOK, "bob", "bob", 3).corners, [0])


class ReachedTest(unittest.TestCase):
    def test_hours_one_by_one(self):
        for book, rng in small_books(8, 25):
            many = rng.randint(1, 3)
            for who in book.names():
                for late in [1, 100]:
                    every = all_lateness(book, {who: late}, many)
                    names = [name for name in book.names() if any(found[name] > 0 for found in every)]
                    self.assertEqual(reached(book=book, who=who, many=many), names)

    def test_by_what_matters(self):
        rng = seeded(9)
        for _ in range(30):
            book = random_book(rng, "abcd", 4, 5)
            bare = after(book, 2)
            for who in "abcd":
                self.assertEqual(reached(book, who, 2), [name for name in "abcd" if who in matters(bare.rule(name))])


class HeldTest(unittest.TestCase):
    def test_hours_one_by_one(self):
        for book, rng in small_books(10, 20) + small_books(11, 15, "ab", 5):
            many = rng.randint(1, 3)
            for held in [[], ["b"], ["b", "a"], book.names()[::-1]]:
                lates = some_lates(rng, book.names())
                every = all_lateness(book, lates, many, held)
                for name in book.names():
                    got = held_late(book=book, lates=lates, name=name, many=many, held=held)
                    self.assertEqual(got, max(late[name] for late in every))

    def test_nobody_held_is_the_most(self):
        rng = seeded(12)
        for _ in range(40):
            book = random_book(rng, "abcd", 4, 9)
            lates, many, name = some_lates(rng, "abcd", 12), rng.randint(1, 2), rng.choice("abcd")
            self.assertEqual(held_late(book, lates, name, many, []), most_late(book, lates, name, many))
            self.assertEqual(held_late(book, lates, name, 1, list("abcd")), most_late(book, lates, name, 1))

    def test_nobody_held_is_the_most_with_long_waits_and_lates(self):
        rng = seeded(16)
        for _ in range(150):
            terms = {name: random_rule(rng, 4, "abc", (), 1).term() for name in "abc"}
            scale = rng.choice([1, LONG])
            long = rng.choice([(0, 0, 0, -7), (0, 0, 7), (-5, 5)])
            rules = [(name, Rule(rebuilt(term, lambda part: (part[0], part[1], scale * rng.choice(long)))))
                     for name, term in terms.items()]
            book, many, name = Book(rules), rng.randint(1, 3), rng.choice("abc")
            for lates in [{"a": LONG, "b": -LONG}, {"c": 5, "a": -3}, {"a": -LONG, "b": -LONG, "c": 1}, {"b": -1}]:
                self.assertEqual(held_late(book, lates, name, many, []), most_late(book, lates, name, many))

    def test_a_wait_that_counts_in_each_round(self):
        book = Book([("a", of("a", -LONG)), ("b", of("b")), ("c", Rule(("first", [("of", "a", 0), ("of", "b", 0)])))])
        self.assertEqual([held_late(book, {"b": 5}, "c", 3, held) for held in [[], ["a"], ["b"]]], [5, 5, 0])
        self.assertEqual([most_late(book, {"b": 5}, "c", 3), least_late(book, {"b": 5}, "c", 3)], [5, 0])
        self.assertEqual([stopping(book, who, "c", 3) for who in "abc"], [[["a"]], [["b"]], [[]]])

    def test_stopping_with_long_waits(self):
        rng = seeded(17)
        for _ in range(60):
            rules = [(name, random_rule(rng, 4, "abc", (), rng.choice([1, LONG]))) for name in "abc"]
            book, many = Book(rules), rng.randint(2, 3)
            lots = [list(lot) for size in range(4) for lot in itertools.combinations("abc", size)]
            for who, name in itertools.product("abc", "abc"):
                stops = [lot for lot in lots if held_late(book, {who: 10 ** 29}, name, many, lot) == 0]
                least = [lot for lot in stops if not any(set(other) < set(lot) for other in stops)]
                self.assertEqual(stopping(book, who, name, many), least)

    def test_in_the_same_round(self):
        # bob goes in the same round by ann, who is held in round 1 alone.
        book = Book([("ann", of("ann", 1)), ("bob", Rule(("last", [("now", "ann", 0), ("of", "bob", 0)])))])
        self.assertEqual([held_late(book, {"ann": 4}, "bob", many, ["ann"]) for many in [1, 2, 3]], [4, 0, 0])
        self.assertEqual([held_late(book, {"ann": 4}, "ann", many, ["bob"]) for many in [1, 2, 3]], [4, 4, 4])
        hung = Book([("ann", of("ann", 1)), ("bob", now("ann")), ("cy", of("bob"))])
        self.assertEqual([held_late(hung, {"ann": 4}, "cy", 2, held) for held in [[], ["ann"], ["bob"]]], [4, 0, 0])
        self.assertEqual([held_late(hung, {"ann": 4}, "bob", 2, held) for held in [[], ["ann"], ["bob"]]], [4, 0, 4])
        # The flat book has bob by ann's hour of the round before, whoever is held.
        self.assertEqual(held_late(flat(hung), {"ann": 4}, "cy", 2, ["ann"]), 4)

    def test_lates_below_0_and_long_ones(self):
        self.assertEqual(held_late(BOOK, {"bob": -LONG, "cat": -LONG}, "ann", 2, ["cat"]), 0)
        self.assertEqual(held_late(BOOK, {"bob": -LONG, "cat": -LONG}, "ann", 2, []), -LONG)
        self.assertEqual(held_late(BOOK, {"bob": LONG, "cat": LONG}, "ann", 2, ["cat"]), 7)
        self.assertEqual(held_late(BOOK, {"bob": LONG, "cat": LONG}, "ann", 3, ["ann"]), LONG)

    def test_stopping(self):
        sizes = set()
        for book, rng in small_books(13, 20):
            many = rng.randint(1, 3)
            for who in "ac":
                stopped = {}
                for size in range(4):
                    for lot in itertools.combinations("abc", size):
                        every = all_lateness(book, {who: 200}, many, lot)
                        stopped[lot] = {name: not any(late[name] > 0 for late in every) for name in "abc"}
                for name in "abc":
                    lots = [list(lot) for lot in stopped if stopped[lot][name] and not any(
                        stopped[tuple(other for other in lot if other != left)][name] for left in lot)]
                    self.assertEqual(stopping(book=book, who=who, name=name, many=many), lots)
                    sizes.update([len(lots)] + ["lot"] * any(len(lot) > 1 for lot in lots))
        self.assertTrue({0, 1, 2, "lot"} <= sizes)

    def test_late_by_1_does_not_show_it(self):
        # While cy is held, ann can be late only by more than 5.
        same = Book([("ann", Rule(("last", [("of", "bob", 0), ("of", "cy", 5)]))), ("bob", of("bob")), ("cy", of("bob"))])
        self.assertEqual([held_late(same, {"bob": late}, "ann", 2, ["cy"]) for late in [1, 5, 6, 9]], [0, 0, 1, 4])
        self.assertEqual(stopping(same, "bob", "ann", 2), [["bob", "cy"]])

    def test_wrong_lots(self):
        wrong = [["ann", "ann"], ["dan"], ("ann",), {"ann": 1}, "ann", [["ann"]], [None], ["ann", 1], None]
        for value in wrong:
            with self.assertRaises(InvalidNames) as caught:
                held_late(BOOK, {}, "ann", 2, value)
            self.assertIs(caught.exception.value, value)


def leads_to(book, who, name):
    """Whether a way leads from one scribe to another, a first step by a part "of", all others by any parts."""
    steps = {other: [part for _, part in parts(book.rule(other))] for other in book.names()}
    there = {other for other in steps if ("of", who) in [part[:2] for part in steps[other]]}
    for _ in steps:
        there |= {other for other in steps if any(part[1] in there for part in steps[other])}
    return name in there


class CanEverTest(unittest.TestCase):
    def test_can_ever(self):
        rng = seeded(14)
        answers = {True: 0, False: 0}
        rounds = set()
        for at in range(150):
            names = rng.choice(["ab", "abc", "abcde"])
            book = random_book(rng, names, rng.choice([1, 2, 6]), 9)
            for who in names:
                for name in names:
                    value = can_ever(book=book, who=who, name=name)
                    self.assertEqual(value is not None, leads_to(book, who, name))
                    answers[value is None] += 1
                    if value is not None:
                        other, hours, many = value
                        self.assertEqual(other.names(), book.names())
                        self.assertTrue(set(book.names()) <= set(hours))
                        self.assertEqual(late_at(other, {who: 1}, hours, many)[name], 1)
                        self.assertIs(is_can_ever(book=book, who=who, name=name, value=value), True)
                        rounds.add(many)
        self.assertTrue(min(answers.values()) > 100 and {1, 2, 3} <= rounds)

    def test_nobody_is_late_without_a_way(self):
        rng = seeded(15)
        for _ in range(40):
            book = random_book(rng, "abcd", 2, 3)
            for _ in range(10):
                who, hours = rng.choice("abcd"), random_hours(rng, "abcd")
                late = late_at(book, {who: rng.randint(1, 9)}, hours, rng.randint(1, 5))
                self.assertTrue(all(by == 0 or can_ever(book, who, name) is not None for name, by in late.items()))

    def test_first_step_of_the_round_before(self):
        book = Book([("a", of("a")), ("b", now("a")), ("c", now("d")), ("d", of("b"))])
        self.assertEqual(can_ever(book, "a", "b")[2], 1)
        self.assertEqual(can_ever(book, "a", "c")[2], 2)
        self.assertIsNone(can_ever(book, "c", "c"))
        self.assertIsNone(can_ever(book, "d", "c"))
        self.assertEqual([can_ever(book, "b", name) is None for name in "abcd"], [True, True, False, False])

    def test_is_can_ever(self):
        rule = Rule(("rank", 2, [("of", "a", 3), ("now", "b", 4), ("first", [("of", "a", 5)])]))
        book = Book([("a", rule), ("b", of("b", 7))])
        made = Book([("a", waited(waited(waited(rule, (0,), 0), (1,), 50), (2, 0), -50)), ("b", of("b"))])
        hours = {"a": 0, "b": 0}
        for value in [(made, hours, 1), (made, hours, 30), (made, {"a": 2, "b": 2, "zed": 9}, 2)]:
            self.assertIs(is_can_ever(book, "a", "a", value), True)
        self.assertIs(is_can_ever(book, "b", "a", (made, hours, 1)), False)
        other_rules = [Rule(("rank", 1, rule.term()[2])), Rule(("last", rule.term()[2])), of("a"),
                       Rule(("rank", 2, [("of", "a", 3), ("of", "b", 4), ("first", [("of", "a", 5)])])),
                       Rule(("rank", 2, [("of", "a", 3), ("now", "b", 4), ("last", [("of", "a", 5)])])),
                       Rule(("rank", 2, [("of", "b", 3), ("now", "b", 4), ("first", [("of", "a", 5)])]))]
        others = [(book.changed("a", other), hours, 1) for other in other_rules]
        more = Book([("a", made.rule("a")), ("b", of("b")), ("c", of("c"))])
        wrong = [(made, hours, 0), (made, hours, 31), (made, hours, True), (made, hours, "1"), (made, {"a": 0}, 1),
                 (made, {"a": 0, "b": True}, 1), (made, [("a", 0), ("b", 0)], 1), (made, hours), [made, hours, 1],
                 (made, hours, 1, 1), (None, hours, 1), (rule, hours, 1), (made, None, 1), (made, hours, None), None,
                 (made, hours, -1), (more, dict(hours, c=0), 1), (Book([("a", of("a"))]), hours, 1),
                 (made, {"a": 0, "b": 0, "B": 1}, 1), (book, {"a": 0, "b": -7}, 1)]
        for value in wrong + others + any_objects():
            self.assertIs(is_can_ever(book, "a", "a", value), False, value)

    def test_late_by_just_1(self):
        book = Book([("a", Rule(("last", [("of", "a", 0), ("of", "b", 0)]))), ("b", of("b"))])
        self.assertIs(is_can_ever(book, "a", "a", (book, {"a": 0, "b": 0}, 1)), True)
        self.assertIs(is_can_ever(book, "a", "a", (book, {"a": 0, "b": 1}, 1)), False)

    def test_results_are_kept_apart(self):
        value = can_ever(BOOK, "bob", "ann")
        value[1].clear()
        self.assertEqual(sorted(can_ever(BOOK, "bob", "ann")[1]), ["ann", "bob", "cat"])
        self.assertTrue(can_ever(BOOK, "bob", "ann")[0] == value[0])


class BoundsTest(unittest.TestCase):
    calls = [
        (1, 3, lambda many: most_late(BOOK, {"bob": 9}, "ann", many)),
        (1, 3, lambda many: least_late(BOOK, {"bob": 9}, "ann", many)),
        (1, 3, lambda many: late_hours(BOOK, {"bob": 9}, "ann", many, 1)),
        (1, 3, lambda many: late_stair(BOOK, "bob", "ann", many)),
        (1, 3, lambda many: reached(BOOK, "bob", many)),
        (1, 3, lambda many: held_late(BOOK, {"bob": 9}, "ann", many, [])),
        (1, 3, lambda many: stopping(BOOK, "bob", "ann", many)),
        (0, 30, lambda many: late_at(BOOK, {"bob": 9}, HOURS, many)),
    ]

    def test_numbers_of_rounds(self):
        for least, most, call in self.calls:
            for many in [least, most]:
                call(many)
            for many in [least - 1, most + 1, True, False, None, "1", [1], 10 ** 30]:
                with self.assertRaises(InvalidCount) as caught:
                    call(many)
                self.assertIs(caught.exception.value, many)

    def test_lates(self):
        for value in [None, [], ["bob"], {"dan": 1}, {"bob": True}, {"bob": None}, {"bob": "1"}, {1: 1}, {"Bob": 1},
                      {"bob": 1, "dan": 0}, (("bob", 1),), {("bob",): 1}, {"bob": [1]}, "bob", 3, BOOK]:
            for call in [lambda: late_at(BOOK, value, None, None), lambda: most_late(BOOK, value, None, None),
                         lambda: least_late(BOOK, value, "dan", 4), lambda: late_hours(BOOK, value, "dan", 4, None),
                         lambda: held_late(BOOK, value, None, 0, None)]:
                with self.assertRaises(InvalidLates) as caught:
                    call()
                self.assertIs(caught.exception.value, value)

    def test_errors_in_order(self):
        orders = [
            (late_at, [BOOK, {}, HOURS, 0], [InvalidBook, InvalidLates, InvalidHours, InvalidCount]),
            (most_late, [BOOK, {}, "ann", 1], [InvalidBook, InvalidLates, UnknownName, InvalidCount]),
            (least_late, [BOOK, {}, "ann", 1], [InvalidBook, InvalidLates, UnknownName, InvalidCount]),
            (late_hours, [BOOK, {}, "ann", 1, 0], [InvalidBook, InvalidLates, UnknownName, InvalidCount, InvalidWhole]),
            (late_stair, [BOOK, "bob", "ann", 1], [InvalidBook, UnknownName, UnknownName, InvalidCount]),
            (reached, [BOOK, "bob", 1], [InvalidBook, UnknownName, InvalidCount]),
            (held_late, [BOOK, {}, "ann", 1, []], [InvalidBook, InvalidLates, UnknownName, InvalidCount, InvalidNames]),
            (stopping, [BOOK, "bob", "ann", 1], [InvalidBook, UnknownName, UnknownName, InvalidCount]),
            (can_ever, [BOOK, "bob", "ann"], [InvalidBook, UnknownName, UnknownName]),
            (is_can_ever, [BOOK, "bob", "ann", None], [InvalidBook, UnknownName, UnknownName]),
        ]
        for call, right, kinds in orders:
            for at, kind in enumerate(kinds):
                wrong = [["wrong", at] for at in range(len(right))]
                with self.assertRaises(kind) as caught:
                    call(*right[:at], *wrong[at:])
                self.assertIs(caught.exception.value, wrong[at])


if __name__ == "__main__":
    unittest.main()
