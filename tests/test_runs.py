"""Points 100 to 106: what one lateness does in this run, and which scribes an hour goes by."""

import itertools
import unittest

from leafwaits.books import Book
from leafwaits.errors import InvalidHours, InvalidNames, InvalidRule, NotFlat, UnknownName
from leafwaits.rows import matters, rows
from leafwaits.rules import Rule, mirrored, named, told
from leafwaits.runs import carried, check_earlier, check_later, deciding, delayers, earlier_hours, felt, hasteners
from leafwaits.runs import holders, later_hours, leeway, open_names, pacers, spare
from support import any_objects, random_book, random_hours, random_rule, rounds_by_definition, seeded

FAR = 10 ** 6


def begun(hours, names, count):
    return {name: hour + (count if name in names else 0) for name, hour in hours.items()}


def subsets(names):
    return [list(lot) for size in range(len(names) + 1) for lot in itertools.combinations(names, size)]


def least(lots):
    lots = list(lots)
    return sorted(lot for lot in lots if not any(set(other) < set(lot) for other in lots))


def with_others(rule, hours, names, by):
    """What a rule tells if all names but some of its canonical rows' hand so much later."""
    return told(rule, begun(hours, [name for name in matters(rule) if name not in names], by))


def cases(number, many=60, parts=7):
    rng = seeded(number)
    for _ in range(many):
        rule = random_rule(rng, parts, "abcd", (), 4)
        yield rule, random_hours(rng, named(rule)[0], 5)


class CarriedTest(unittest.TestCase):
    def test_against_runs_one_by_one(self):
        rng = seeded(1)
        for _ in range(60):
            book = random_book(rng, "abcd"[:rng.randint(1, 4)], 5, 4)
            hours = random_hours(rng, book.names(), 6)
            names = rng.sample(book.names(), rng.randint(0, len(book)))
            many = rng.randint(0, 4)
            every = carried(book, hours, names, many)
            self.assertEqual(len(every), many + 1)
            for at, stairs in enumerate(every):
                self.assertEqual(list(stairs), book.names())
                for count in list(range(30)) + [FAR]:
                    behind = rounds_by_definition(book, begun(hours, names, count), at)
                    self.assertEqual({name: stair.value(count) for name, stair in stairs.items()}, behind)

    def test_no_names_and_no_rounds(self):
        book = Book([("a", Rule(("of", "b", 1))), ("b", Rule(("now", "a", 2)))])
        self.assertEqual([stair.corners for stair in carried(book, {"a": 1, "b": 2}, [], 2)[2].values()], [[], []])
        every = carried(book, {"a": 1, "b": -2, "z": 7}, ["b"], 0)
        self.assertEqual([[name, stair.begin, stair.corners] for name, stair in every[0].items()],
                         [["a", 1, []], ["b", -2, [0]]])

    def test_wrong_names(self):
        book = Book([("a", Rule(("of", "b", 1))), ("b", Rule(("now", "a", 2)))])
        for value in any_objects() + [("a",), ["a", "a"], ["a", "c"], {"a": 1}]:
            if value != []:
                for call, others in [(carried, [None]), (spare, [None, None, None]), (felt, [None, None])]:
                    with self.assertRaises(InvalidNames) as caught:
                        call(book, {"a": 1, "b": 2}, value, *others)
                    self.assertIs(caught.exception.value, value)


class SpareTest(unittest.TestCase):
    def test_against_counts_one_by_one(self):
        rng = seeded(2)
        told_of = set()
        for _ in range(150):
            book = random_book(rng, "abc", 4, 3)
            hours = random_hours(rng, book.names(), 5)
            names = rng.sample(book.names(), rng.randint(0, 3))
            name, many, limit = rng.choice(book.names()), rng.randint(0, 3), rng.randint(-10, 12)
            kept = [count for count in list(range(60)) + [FAR]
                    if rounds_by_definition(book, begun(hours, names, count), many)[name] <= limit]
            right = -1 if not kept else None if kept[-1] == FAR else kept[-1]
            self.assertEqual(spare(book, hours, names, name, many, limit), right)
            told_of.add(right if right in (None, -1) else "count")
        self.assertEqual(told_of, {None, -1, "count"})

    def test_felt_against_runs(self):
        rng = seeded(3)
        for _ in range(60):
            book = random_book(rng, "abc", 4, 3)
            hours = random_hours(rng, book.names(), 5)
            names = rng.sample(book.names(), rng.randint(0, 3))
            count, many = rng.choice([0, 1, 3, 9, 10 ** 29]), rng.randint(0, 4)
            found = felt(book, hours, names, count, many)
            self.assertEqual(len(found), many + 1)
            for at, late in enumerate(found):
                plain = rounds_by_definition(book, hours, at)
                moved = rounds_by_definition(book, begun(hours, names, count), at)
                self.assertEqual(late, {name: moved[name] - plain[name] for name in moved if moved[name] != plain[name]})
                self.assertTrue(all(0 < by <= count for by in late.values()))


class LeewayTest(unittest.TestCase):
    def test_against_hours_one_by_one(self):
        for rule, hours in cases(4):
            for name in named(rule)[0]:
                hour = told(rule, hours)
                found = []
                for sign in [-1, 1]:
                    steps = list(range(1, 40)) + [FAR]
                    unlike = [step for step in steps if told(rule, begun(hours, [name], sign * step)) != hour]
                    found.append(unlike[0] - 1 if unlike else None)
                self.assertEqual(leeway(rule, hours, name), tuple(found))

    def test_idle_name_and_unknown_name(self):
        rule = Rule(("first", [("of", "a", 0), ("last", [("of", "a", 1), ("of", "b", 0)])]))
        self.assertEqual(leeway(rule, {"a": 1, "b": 2, "c": 3}, "b"), (None, None))
        self.assertEqual(leeway(rule, {"a": 1, "b": 2}, "a"), (0, 0))
        for value in ["c", "", None, ["a"], 1]:
            with self.assertRaises(UnknownName) as caught:
                leeway(rule, {"a": 1, "b": 2, "c": 3}, value)
            self.assertIs(caught.exception.value, value)


class DecidingTest(unittest.TestCase):
    def test_by_their_words(self):
        for rule, hours in cases(5):
            hour, lots = told(rule, hours), subsets(matters(rule))
            self.assertEqual(holders(rule, hours), least(lot for lot in lots
                                                         if with_others(rule, hours, lot, -FAR) >= hour))
            self.assertEqual(pacers(rule, hours), least(lot for lot in lots
                                                        if with_others(rule, hours, lot, FAR) <= hour))
            self.assertEqual(hasteners(rule, hours), least(lot for lot in lots
                                                           if told(rule, begun(hours, lot, -FAR)) < hour))
            self.assertEqual(delayers(rule, hours), least(lot for lot in lots
                                                          if told(rule, begun(hours, lot, FAR)) > hour))
            held = sorted({name for lot in holders(rule, hours) for name in lot})
            self.assertEqual(deciding(rule, hours), held)
            self.assertEqual(held, sorted({name for lot in hasteners(rule, hours) for name in lot}))
            paced = [name for lot in pacers(rule, hours) for name in lot]
            self.assertEqual(open_names(rule, hours), [name for name in matters(rule) if name not in held + paced])

    def test_what_they_are_to_one_another(self):
        for rule, hours in cases(6):
            names = matters(rule)
            for some, others in [(holders, hasteners), (pacers, delayers)]:
                ones, twos = some(rule, hours), others(rule, hours)
                self.assertEqual(twos, least(lot for lot in subsets(names) if all(set(lot) & set(one) for one in ones)))
                self.assertEqual(ones, least(lot for lot in subsets(names) if all(set(lot) & set(two) for two in twos)))
            turned = {name: -hour for name, hour in hours.items()}
            self.assertEqual(holders(rule, hours), pacers(mirrored(rule), turned))
            self.assertEqual(hasteners(rule, hours), delayers(mirrored(rule), turned))
            self.assertTrue(all(set(one) & set(two) for one in holders(rule, hours) for two in pacers(rule, hours)))

    def test_first_of_two(self):
        rule = Rule(("first", [("of", "a", 0), ("of", "b", 0)]))
        self.assertEqual([holders(rule, {"a": 2, "b": 1}), pacers(rule, {"a": 2, "b": 1})], [[["a", "b"]], [["b"]]])

    def test_lists_stand_in_order(self):
        # Of two that are least, the longer one comes first here.
        rule = Rule(("first", [("of", "b", 0), ("last", [("of", "a", 0), ("of", "c", 0)])]))
        turned = Rule(("last", [("of", "b", 0), ("first", [("of", "a", 0), ("of", "c", 0)])]))
        hours = {"a": 0, "b": 0, "c": 0}
        lists = [["a", "c"], ["b"]]
        self.assertEqual([hasteners(rule, hours), pacers(rule, hours)], [lists, lists])
        self.assertEqual([holders(turned, hours), delayers(turned, hours)], [lists, lists])

    def test_idle_names_stand_in_no_list(self):
        rule = Rule(("first", [("of", "a", 0), ("last", [("of", "a", 1), ("of", "b", 0)])]))
        for call in [holders, hasteners, pacers, delayers]:
            self.assertEqual(call(rule, {"a": 1, "b": -9}), [["a"]])
        self.assertEqual([deciding(rule, {"a": 1, "b": 5}), open_names(rule, {"a": 1, "b": 5})], [["a"], []])

    def test_open_names(self):
        rule = Rule(("last", [("of", "a", 0), ("first", [("of", "b", 0), ("of", "c", 0)])]))
        self.assertEqual(open_names(rule, {"a": 9, "b": 0, "c": 1}), [])
        self.assertEqual(pacers(rule, {"a": 9, "b": 0, "c": 1}), [["a", "b"], ["a", "c"]])
        deep = Rule(("last", [("of", "a", 0), ("first", [("of", "b", 0), ("last", [("of", "c", 0), ("of", "d", 0)])])]))
        self.assertEqual(open_names(deep, {"a": 9, "b": 0, "c": 20, "d": 0}), ["c", "d"])


class OtherHoursTest(unittest.TestCase):
    def test_there_are_some_unless_a_holder_or_pacer_stands_still(self):
        for rule, hours in cases(7, 40):
            for still in subsets(named(rule)[0]):
                early, late = earlier_hours(rule, hours, still), later_hours(rule, hours, still)
                self.assertEqual(early is None, any(set(lot) <= set(still) for lot in holders(rule, hours)))
                self.assertEqual(late is None, any(set(lot) <= set(still) for lot in pacers(rule, hours)))
                for value, sign, check in [(early, -1, check_earlier), (late, 1, check_later)]:
                    if value is not None:
                        self.assertEqual(sorted(value), matters(rule))
                        self.assertTrue(self.is_right(rule, hours, still, value, sign))
                        self.assertTrue(check(rule, hours, still, value))
                        self.assertTrue(check(rule, hours, still[::-1], dict(value, zed=-5)))

    def is_right(self, rule, hours, still, value, sign):
        names = matters(rule)
        if not all(value[name] == hours[name] for name in names if name in still):
            return False
        if not all(sign * (value[name] - hours[name]) >= 0 for name in names):
            return False
        return sign * (told(rule, {**hours, **value}) - told(rule, hours)) > 0

    def test_checks_against_the_words(self):
        rng = seeded(8)
        answers = []
        for rule, hours in cases(9, 40, 5):
            for _ in range(30):
                still = [name for name in named(rule)[0] if rng.random() < 0.3]
                value = {name: hours[name] + rng.choice([0, 0, -1, 1, -3, 3]) for name in matters(rule)}
                if rng.random() < 0.8:
                    value.update({name: hours[name] for name in still if name in value})
                for sign, check in [(-1, check_earlier), (1, check_later)]:
                    if rng.random() < 0.5:
                        value = {name: hours[name] + sign * abs(hour - hours[name]) for name, hour in value.items()}
                    answers.append(check(rule, hours, still, value))
                    self.assertIs(answers[-1], self.is_right(rule, hours, still, value, sign))
        self.assertEqual(set(answers), {True, False})

    def test_checks_of_other_objects(self):
        rule, hours = Rule(("last", [("of", "ann", 1), ("of", "bob", 0)])), {"ann": 3, "bob": 4}
        for value in any_objects():
            self.assertIs(check_earlier(rule, hours, [], value), False)
            self.assertIs(check_later(rule, hours, [], value), False)
        for value in [{"ann": 9}, {"ann": 9, "bob": True}, {"ann": 9, "bob": 9, "Zed": 1}, {"ann": 9, "bob": 9, "zed": None}]:
            self.assertIs(check_later(rule, hours, [], value), False)
        self.assertIs(check_later(rule, hours, [], {"ann": 9, "bob": 9, "zed": 1}), True)

    def test_names_that_do_not_matter_may_stand_still(self):
        rule = Rule(("first", [("of", "a", 0), ("last", [("of", "a", 1), ("of", "b", 0)])]))
        hours = {"a": 1, "b": 2}
        self.assertEqual(list(earlier_hours(rule, hours, ["b"])), ["a"])
        self.assertTrue(check_later(rule, hours, ["b"], {"a": 2, "b": -7}))
        self.assertIsNone(later_hours(rule, hours, ["b", "a"]))

    def test_wrong_arguments(self):
        rule, hours = Rule(("last", [("of", "a", 1), ("of", "b", 0)])), {"a": 3, "b": 4}
        hung = Rule(("last", [("of", "a", 1), ("now", "b", 0)]))
        for call, others in [(earlier_hours, []), (later_hours, []), (check_earlier, [None]), (check_later, [None])]:
            for value in [None, "a", ("a",), ["a", "a"], ["c"], [None], {"a": 1}]:
                with self.assertRaises(InvalidNames) as caught:
                    call(rule, hours, value, *others)
                self.assertIs(caught.exception.value, value)
            with self.assertRaises(InvalidHours):
                call(rule, {"a": 3}, None, *others)
            with self.assertRaises(NotFlat):
                call(hung, None, None, *others)
            with self.assertRaises(InvalidRule):
                call(hung.term(), None, None, *others)


class RowsOfRunsTest(unittest.TestCase):
    def test_pacers_are_names_of_rows_that_tell_the_hour(self):
        for rule, hours in cases(10):
            hour = told(rule, hours)
            lots = [[name for name, _ in row] for row in rows(rule)
                    if max(hours[name] + wait for name, wait in row) == hour]
            self.assertEqual(pacers(rule, hours), least(lot for at, lot in enumerate(lots) if lot not in lots[:at]))


if __name__ == "__main__":
    unittest.main()
