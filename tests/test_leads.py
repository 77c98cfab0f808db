"""Points 133 to 135: by how much one scribe can hand behind another one, ahead of all others, behind all others."""

import itertools
import unittest

from leafwaits.books import Book, after, turned_about
from leafwaits.differences import spread
from leafwaits.errors import InvalidBook, InvalidCount, InvalidWhole, UnknownName
from leafwaits.leads import front, front_hours, lead, lead_hours, rear, rear_hours, sure_order
from leafwaits.rounds import hours_after
from leafwaits.rules import Rule
from support import random_book, rounds_by_definition, seeded

FAR = 10 ** 4


def many_hours(names, reach=4):
    values = [-2 * FAR, -FAR] + list(range(-reach, reach + 1)) + [FAR, 2 * FAR]
    return [dict(zip(names, chosen)) for chosen in itertools.product(values, repeat=len(names))]


def greatest(numbers):
    return None if max(numbers) > FAR // 2 else max(numbers)


class LeadTest(unittest.TestCase):
    def test_against_hours_one_by_one(self):
        rng = seeded(1)
        kinds = set()
        for _ in range(14):
            book = random_book(rng, "abc", 3, 1)
            for many in [1, 2]:
                every = [rounds_by_definition(book, hours, many) for hours in many_hours("abc")]
                for one, other in itertools.product("abc", repeat=2):
                    right = greatest([now[one] - now[other] for now in every])
                    kinds.add(None if right is None else right < 0)
                    self.assertEqual(lead(book, one, other, many), right)
                for name in "abc":
                    others = [other for other in "abc" if other != name]
                    self.assertEqual(front(book, name, many),
                                     greatest([min(now[other] for other in others) - now[name] for now in every]))
                    self.assertEqual(rear(book, name, many),
                                     greatest([now[name] - max(now[other] for other in others) for now in every]))
        self.assertEqual(kinds, {None, True, False})

    def test_one_scribe_to_itself_and_one_round(self):
        book = Book([("a", Rule(("of", "a", 3)))])
        self.assertEqual([lead(book, "a", "a"), lead(book, "a", "a", 3), sure_order(book)], [0, 0, []])
        self.assertEqual([list(lead_hours(book, "a", "a", 0, 2)), lead_hours(book, "a", "a", 1)], [["a"], None])
        rng = seeded(2)
        for _ in range(20):
            book = random_book(rng, "abcd", 4, 4)
            for one, other in itertools.permutations("abcd", 2):
                self.assertEqual(lead(book, one, other), lead(book, one, other, many=1))
                self.assertEqual(spread(after(book, 1).rule(one), after(book, 1).rule(other)),
                                 (None if lead(book, other, one) is None else -lead(book, other, one), lead(book, one, other)))

    def test_one_round_if_nothing_is_told(self):
        jo, kim = Rule(("first", [("of", "kim", 0), ("of", "moe", 0)])), Rule(("last", [("of", "jo", 0), ("of", "moe", 0)]))
        book = Book([("jo", jo), ("kim", kim), ("moe", Rule(("of", "moe", 0)))])
        self.assertEqual([lead(book, "kim", "moe"), lead(book, "kim", "moe", 2)], [None, 0])
        self.assertEqual([rear(book, "kim"), rear(book, "kim", 1), rear(book, "kim", 2)], [None, None, 0])
        self.assertEqual([front(book, "jo"), front(book, "jo", 1), front(book, "jo", 2)], [None, None, 0])
        self.assertEqual([lead_hours(book, "kim", "moe", 5, 2), rear_hours(book, "kim", 5, 2), front_hours(book, "jo", 5, 2)],
                         [None] * 3)
        for hours, one, other in [(lead_hours(book, "kim", "moe", 5), "kim", "moe"), (rear_hours(book, "kim", 5), "kim", "moe"),
                                  (front_hours(book, "moe", -5), "moe", "jo")]:
            now = hours_after(book, hours, 1)
            self.assertEqual(now[one] - now[other], 5)

    def test_leads_never_grow(self):
        rng = seeded(3)
        fewer = 0
        for _ in range(40):
            book = random_book(rng, "abc", 4, 3)
            for one, other in itertools.permutations("abc", 2):
                found = [lead(book, one, other, many) for many in [1, 2, 3]]
                numbers = [FAR if number is None else number for number in found]
                self.assertEqual(numbers, sorted(numbers, reverse=True))
                fewer += numbers[0] > numbers[2]
        self.assertGreater(fewer, 10)


class HoursTest(unittest.TestCase):
    def check_hours(self, book, many, hours, most, least, number, tells):
        """Whether hours are right; most is the greatest number, and minus least the greatest of the other sign."""
        there = (most is None or number <= most) and (least is None or -number <= least)
        self.assertEqual(hours is not None, there)
        if there:
            self.assertEqual(sorted(hours), book.names())
            self.assertEqual(tells(hours_after(book, hours, many)), number)

    def test_each_number_that_there_is(self):
        rng = seeded(4)
        for _ in range(25):
            book = random_book(rng, "abcd"[:rng.randint(2, 4)], 4, 3)
            names = book.names()
            many = rng.randint(1, 2)
            one, other = rng.sample(names, 2)
            most, least = lead(book, one, other, many), lead(book, other, one, many)
            for number in list(range(-8, 9)) + [-10 ** 29, 10 ** 29]:
                self.check_hours(book, many, lead_hours(book, one, other, number, many), most, least, number,
                                 lambda now: now[one] - now[other])
                self.assertEqual(lead_hours(book, one, other, number, many),
                                 lead_hours(book=book, one=one, other=other, number=number, many=many))

    def test_fronts_and_rears(self):
        rng = seeded(5)
        for _ in range(25):
            book = random_book(rng, "abc", 4, 3)
            name, many = rng.choice("abc"), rng.randint(1, 2)
            others = [other for other in "abc" if other != name]
            every = [rounds_by_definition(book, hours, many) for hours in many_hours("abc", 1)]
            fronts = [min(now[other] for other in others) - now[name] for now in every]
            rears = [now[name] - max(now[other] for other in others) for now in every]
            for number in list(range(-6, 7)) + [10 ** 29, -10 ** 29]:
                hours = front_hours(book, name, number, many)
                if hours is not None:
                    now = hours_after(book, hours, many)
                    self.assertEqual(min(now[other] for other in others) - now[name], number)
                    self.assertEqual(sorted(hours), ["a", "b", "c"])
                self.assertTrue(hours is not None or number not in range(min(fronts), max(fronts) + 1))
                most = front(book, name, many)
                self.assertTrue(hours is None or most is None or number <= most)
                hours = rear_hours(book, name, number, many)
                if hours is not None:
                    now = hours_after(book, hours, many)
                    self.assertEqual(now[name] - max(now[other] for other in others), number)
                    self.assertEqual(sorted(hours), ["a", "b", "c"])
                self.assertTrue(hours is not None or number not in range(min(rears), max(rears) + 1))
                most = rear(book, name, many)
                self.assertTrue(hours is None or most is None or number <= most)
            for most, call in [(front(book, name, many), front_hours), (rear(book, name, many), rear_hours)]:
                self.assertIsNotNone(call(book, name, 10 ** 29 if most is None else most, many))
                self.assertTrue(most is None or call(book, name, most + 1, many) is None)

    def test_front_and_rear_are_one_another_turned_about(self):
        rng = seeded(6)
        for _ in range(30):
            book = random_book(rng, "abcd", 4, 4)
            for name in "abcd":
                self.assertEqual(front(book, name, 2), rear(turned_about(book), name, 2))

    def test_first_of_all(self):
        trio = Book([("ann", Rule(("of", "ann", 0))), ("bob", Rule(("of", "ann", 2))), ("cy", Rule(("of", "ann", 5)))])
        self.assertEqual([front(trio, "ann"), front(trio, "bob"), rear(trio, "ann"), rear(trio, "cy")], [2, -2, -5, 3])
        self.assertEqual(front_hours(trio, "ann", 2, 3)["ann"] + 2, hours_after(trio, front_hours(trio, "ann", 2, 3), 1)["bob"])
        self.assertIsNone(front_hours(trio, "ann", 1))


class SureOrderTest(unittest.TestCase):
    def test_by_leads_and_by_rounds(self):
        rng = seeded(7)
        found = 0
        for _ in range(60):
            book = random_book(rng, "abcd", 3, 3)
            order = sure_order(book)
            found += len(order)
            self.assertEqual(order, [(one, other) for one, other in itertools.permutations("abcd", 2)
                                     if lead(book, one, other) is not None and lead(book, one, other) <= 0])
            for hours in [{name: rng.randint(-20, 20) for name in "abcd"} for _ in range(5)]:
                for many in range(1, 5):
                    now = hours_after(book, hours, many)
                    self.assertTrue(all(now[one] <= now[other] for one, other in order))
            for one, two in itertools.product(order, repeat=2):
                self.assertTrue(one[1] != two[0] or one[0] == two[1] or (one[0], two[1]) in order)
        self.assertGreater(found, 20)


class ErrorsTest(unittest.TestCase):
    BOOK = Book([("a", Rule(("of", "b", 1))), ("b", Rule(("of", "a", 2)))])

    def check(self, error, field, call, *arguments):
        with self.assertRaises(error) as caught:
            call(*arguments)
        self.assertIs(caught.exception.value, field)

    def test_in_the_order_of_the_parameters(self):
        for call, others in [(lead, []), (lead_hours, [None])]:
            self.check(InvalidBook, None, call, None, 1, 2, *others, -1)
            self.check(UnknownName, "zed", call, self.BOOK, "zed", 2, *others, -1)
            self.check(UnknownName, 2, call, self.BOOK, "a", 2, *others, -1)
        for value in [0, -1, True, None, "1"]:
            self.check(InvalidCount, value, lead, self.BOOK, "a", "a", value)
            self.check(InvalidCount, value, lead_hours, self.BOOK, "a", "b", 7, value)
            for call in [front, rear]:
                self.check(InvalidCount, value, call, self.BOOK, "a", value)
            for call in [front_hours, rear_hours]:
                self.check(InvalidCount, value, call, self.BOOK, "a", 7, value)
        for value in [True, None, "1"]:
            self.check(InvalidWhole, value, lead_hours, self.BOOK, "a", "b", value, 0)
            for call in [front_hours, rear_hours]:
                self.check(InvalidWhole, value, call, self.BOOK, "a", value, 0)

    def test_a_book_of_one_scribe(self):
        single = Book([("a", Rule(("of", "a", 1)))])
        for call, others in [(front, []), (rear, []), (front_hours, [None]), (rear_hours, [None])]:
            for book in [single, None, self.BOOK.names()]:
                self.check(InvalidBook, book, call, book, "zed", *others, 0)
            self.check(UnknownName, "zed", call, self.BOOK, "zed", *others, 0)


if __name__ == "__main__":
    unittest.main()
