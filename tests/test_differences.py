"""Points 130 to 132: by how much one rule's hour can be behind another one's."""

import itertools
import unittest

from leafwaits.differences import hours_of, is_why_at_most, spread, why_at_most
from leafwaits.errors import InvalidRule, InvalidWhole, NotFlat
from leafwaits.rows import never_behind, rows
from leafwaits.rules import Rule, mirrored, named, shifted, told
from support import any_objects, random_rule, seeded, told_by_definition, within

FAR = 10 ** 4


def cases(number, many=60, names="abc", parts=5):
    rng = seeded(number)
    for _ in range(many):
        yield rng, random_rule(rng, parts, names, (), 2), random_rule(rng, parts, names, (), 2)


def differences(one, other):
    """All differences at many hours, some of them far from one another."""
    names = sorted(set(named(one)[0] + named(other)[0]))
    values = [-2 * FAR, -FAR] + list(range(-4, 5)) + [FAR, 2 * FAR]
    for chosen in itertools.product(values, repeat=len(names)):
        hours = dict(zip(names, chosen))
        yield told_by_definition(one.term(), hours, None) - told_by_definition(other.term(), hours, None)


class SpreadTest(unittest.TestCase):
    def test_against_hours_one_by_one(self):
        kinds = set()
        for _, one, other in cases(1):
            found = list(differences(one, other))
            least = None if min(found) < -FAR // 2 else min(found)
            most = None if max(found) > FAR // 2 else max(found)
            self.assertEqual(spread(one, other), (least, most))
            kinds.add((least is None, most is None))
        self.assertEqual(len(kinds), 4)

    def test_what_spreads_say_of_one_another(self):
        for rng, one, other in cases(2, 150, "abcd", 7):
            least, most = spread(one, other)
            self.assertEqual(spread(other, one), (None if most is None else -most, None if least is None else -least))
            self.assertEqual(spread(shifted(one, 10 ** 11), other),
                             (None if least is None else least + 10 ** 11, None if most is None else most + 10 ** 11))
            self.assertEqual(spread(mirrored(other), mirrored(one)), (least, most))
            self.assertEqual(never_behind(one, other), most is not None and most <= 0)
            self.assertEqual(spread(one, one), (0, 0))

    def test_one_name_and_two(self):
        a, b = Rule(("of", "a", 3)), Rule(("of", "b", 0))
        self.assertEqual([spread(a, b), spread(a, Rule(("of", "a", 10 ** 12 - 1)))], [(None, None), (4 - 10 ** 12, 4 - 10 ** 12)])
        self.assertEqual(spread(Rule(("first", [("of", "a", 0), ("of", "b", 0)])), b), (None, 0))


class HoursOfTest(unittest.TestCase):
    def test_each_number_from_the_least_to_the_greatest(self):
        for _, one, other in cases(3, 80, "abcd", 6):
            least, most = spread(one, other)
            names = sorted(set(named(one)[0] + named(other)[0]))
            for number in list(range(-9, 10)) + [-10 ** 30, 10 ** 30, least or 0, most or 0]:
                hours = hours_of(one, other, number)
                there = (least is None or least <= number) and (most is None or number <= most)
                self.assertEqual(hours is not None, there)
                if there:
                    self.assertEqual(sorted(hours), names)
                    self.assertEqual(told(one, hours) - told(other, hours), number)

    def test_names_that_do_not_matter(self):
        idle = Rule(("first", [("of", "a", 0), ("last", [("of", "a", 1), ("of", "b", 0)])]))
        self.assertEqual(sorted(hours_of(idle, Rule(("of", "c", 0)), 5)), ["a", "b", "c"])
        self.assertIsNone(hours_of(idle, Rule(("of", "a", 0)), 1))


class WhyTest(unittest.TestCase):
    def is_right(self, one, other, number, value):
        own, others = rows(one), rows(other)
        if not isinstance(value, list) or len(value) != len(others):
            return False
        if not all(type(place) is int and 0 <= place < len(own) for place in value):
            return False
        return all(within(dict(own[place]), {name: wait + number for name, wait in row})
                   for place, row in zip(value, others))

    def test_there_is_one_just_if_the_number_is_at_least_the_greatest(self):
        for rng, one, other in cases(4, 120, "abcd", 7):
            most = spread(one, other)[1]
            for number in range(-6, 7):
                value = why_at_most(one, other, number)
                self.assertEqual(value is not None, most is not None and most <= number)
                if value is not None:
                    self.assertTrue(self.is_right(one, other, number, value))
                    self.assertTrue(is_why_at_most(one, other, number, value))
                for _ in range(3):
                    value = [rng.randint(-1, len(rows(one))) for _ in rows(other)]
                    self.assertIs(is_why_at_most(one, other, number, value), self.is_right(one, other, number, value))

    def test_checks_of_other_objects(self):
        one = Rule(("first", [("of", "ann", 0), ("of", "bob", 1)]))
        for value in any_objects() + [[False], (0,), [0, 0], [1], [2], [-1], [0.5][:0], ["0"], {0: 0}]:
            self.assertIs(is_why_at_most(one, Rule(("of", "ann", 0)), 0, value), repr(value) == "[0]")
        self.assertTrue(is_why_at_most(one, Rule(("of", "ann", 0)), 0, [0]))
        self.assertTrue(is_why_at_most(one, one, 0, [0, 1]))
        for value in [[False, 1], [0, True], [0, None], [0], [0, 1, 1], (0, 1), [1, 0]]:
            self.assertIs(is_why_at_most(one, one, 0, value), False)
        self.assertFalse(is_why_at_most(one, Rule(("of", "ann", 0)), -1, [0]))


class ErrorsTest(unittest.TestCase):
    def test_in_the_order_of_the_parameters(self):
        good, hung = Rule(("of", "a", 1)), Rule(("now", "a", 1))
        for call, others in [(spread, []), (hours_of, [None]), (why_at_most, [None]), (is_why_at_most, [None, None])]:
            for one, other, error, field in [(None, hung, InvalidRule, None), (hung, None, NotFlat, hung),
                                             (good, hung, NotFlat, hung), (good, 5, InvalidRule, 5)]:
                with self.assertRaises(error) as caught:
                    call(one, other, *others)
                self.assertIs(caught.exception.value, field)
        for call, others in [(hours_of, []), (why_at_most, []), (is_why_at_most, [None])]:
            for value in [True, None, "1", (1,)]:
                with self.assertRaises(InvalidWhole) as caught:
                    call(good, good, value, *others)
                self.assertIs(caught.exception.value, value)


if __name__ == "__main__":
    unittest.main()
