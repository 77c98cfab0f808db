"""Points 60 to 62: rounds."""

import unittest

from leafwaits.books import Book, after, flat, hours_behind
from leafwaits.errors import InvalidBook, InvalidCount, InvalidHours, InvalidWhole, UnknownName
from leafwaits.rounds import first_round, hours_after, meeting, run
from leafwaits.rules import Rule
from support import random_book, random_hours, rounds_by_definition, seeded

LONG = 10 ** 29 + 7


def of(name, wait=0):
    return Rule(("of", name, wait))


RING = Book([("ann", of("bob", 1)), ("bob", of("ann", -3)), ("cy", Rule(("now", "ann", -1)))])
HOURS = {"ann": 5, "bob": 0, "cy": LONG}


class RunTest(unittest.TestCase):
    def test_by_definition(self):
        rng = seeded(1)
        for _ in range(60):
            book = random_book(rng, rng.choice(["a", "ab", "abc", "abcde"]))
            hours = random_hours(rng, book.names())
            many = rng.randint(0, 6)
            every = run(book=book, hours=dict(hours, zed=3), many=many)
            self.assertEqual(every, [rounds_by_definition(book, hours, number) for number in range(many + 1)])
            self.assertEqual(hours_after(book=book, hours=dict(hours, zed=3), many=many), every[-1])
            self.assertEqual(run(flat(book), hours, many), every)

    def test_one_round_behind_the_other(self):
        rng = seeded(2)
        for _ in range(20):
            book = random_book(rng)
            every = run(book, random_hours(rng, "abc"), 9)
            for ahead, behind in zip(every, every[1:]):
                self.assertEqual(hours_behind(book, ahead), behind)
            self.assertEqual(hours_behind(after(book, 2), every[3]), every[5])

    def test_no_rounds(self):
        self.assertEqual(run(RING, HOURS, 0), [HOURS])
        self.assertEqual(hours_after(RING, dict(HOURS, dan=4), 0), HOURS)

    def test_long_hours_and_many_rounds(self):
        every = run(RING, {"ann": LONG, "bob": -LONG, "cy": 0}, 300)
        self.assertEqual(len(every), 301)
        self.assertEqual(every[300], {"ann": LONG - 300, "bob": -LONG - 300, "cy": LONG - 301})
        self.assertEqual(every[1], {"ann": 1 - LONG, "bob": LONG - 3, "cy": -LONG})

    def test_lists_and_hours_are_kept_apart(self):
        hours = dict(HOURS)
        every = run(RING, hours, 2)
        every[0]["ann"] = 99
        every[1].clear()
        self.assertEqual(hours, HOURS)
        self.assertEqual(run(RING, hours, 2)[1], {"ann": 1, "bob": 2, "cy": 0})
        last = hours_after(RING, hours, 0)
        last.clear()
        self.assertEqual(hours, HOURS)

    def test_later_beginnings(self):
        rng = seeded(3)
        for _ in range(30):
            book = random_book(rng)
            hours = random_hours(rng, "abc")
            moved = {name: hour + LONG for name, hour in hours.items()}
            for ahead, behind in zip(run(book, hours, 4), run(book, moved, 4)):
                self.assertEqual(behind, {name: hour + LONG for name, hour in ahead.items()})

    def test_errors_in_order(self):
        for call in [run, hours_after]:
            for arguments, error, value in [((None, None, -1), InvalidBook, None), ((RING, None, -1), InvalidHours, None),
                                            ((RING, {"ann": 1, "bob": 1}, True), InvalidHours, {"ann": 1, "bob": 1}),
                                            ((RING, HOURS, -1), InvalidCount, -1),
                                            ((RING, HOURS, True), InvalidCount, True)]:
                with self.assertRaises(error) as caught:
                    call(*arguments)
                self.assertEqual(caught.exception.value, value)


class FirstRoundTest(unittest.TestCase):
    def test_by_definition(self):
        rng = seeded(4)
        answers = set()
        for _ in range(200):
            book = random_book(rng)
            hours = random_hours(rng, "abc", 5)
            name, hour, most = rng.choice("abc"), rng.randint(-10, 20), rng.randint(0, 6)
            every = run(book, hours, most)
            expected = [at for at, told in enumerate(every) if told[name] >= hour]
            answer = first_round(book=book, hours=hours, name=name, hour=hour, most=most)
            self.assertEqual(answer, expected[0] if expected else None)
            answers.add(answer)
        self.assertTrue({0, 1, 2, None} <= answers)

    def test_bounds(self):
        up = Book([("ann", of("ann", 2))])
        self.assertEqual([first_round(up, {"ann": 0}, "ann", 6, most) for most in [2, 3, 4, 300]], [None, 3, 3, 3])
        self.assertEqual([first_round(up, {"ann": 0}, "ann", hour, 9) for hour in [-LONG, 0, 1, 2, 3]], [0, 0, 1, 1, 2])
        self.assertEqual(first_round(up, {"ann": LONG}, "ann", LONG, 0), 0)
        self.assertIsNone(first_round(up, {"ann": LONG}, "ann", LONG + 1, 0))
        # A scribe may hand earlier in a later round.
        self.assertEqual([first_round(RING, HOURS, "bob", hour, 300) for hour in [0, 1, 2, 3]], [0, 1, 1, None])

    def test_errors_in_order(self):
        wrong = [(None, InvalidBook), ({"ann": 0}, InvalidHours), ("dan", UnknownName), ("5", InvalidWhole), (-1, InvalidCount)]
        right = [RING, HOURS, "ann", 5, 0]
        for at, (value, error) in enumerate(wrong):
            with self.assertRaises(error) as caught:
                first_round(*right[:at], *[value for value, _ in wrong[at:]])
            self.assertIs(caught.exception.value, value)


class MeetingTest(unittest.TestCase):
    def test_by_definition(self):
        rng = seeded(5)
        answers = set()
        for _ in range(300):
            book = random_book(rng, rng.choice(["ab", "abc"]), 4, 2)
            one, other = random_hours(rng, book.names(), 4), random_hours(rng, book.names(), 4)
            most = rng.randint(0, 5)
            expected = None
            for number, (less, more) in enumerate(zip(run(book, one, most), run(book, other, most))):
                gaps = {more[name] - less[name] for name in book.names()}
                if len(gaps) == 1 and expected is None:
                    expected = (number, gaps.pop())
            answer = meeting(book=book, one=one, other=dict(other, zed=LONG), most=most)
            self.assertEqual(answer, expected)
            answers.add(answer and answer[0])
            if answer is not None:
                self.assertEqual(meeting(book, other, one, most), (answer[0], -answer[1]))
        self.assertTrue({None, 0, 1, 2} <= answers)

    def test_bounds(self):
        turn = Book([("ann", of("bob", 1)), ("bob", of("cy")), ("cy", of("cy", 2))])
        nought, late = {"ann": 0, "bob": 0, "cy": 0}, {"ann": LONG, "bob": 4, "cy": -7}
        self.assertEqual([meeting(turn, nought, late, most) for most in [0, 1, 2, 300]], [None, None, (2, -7), (2, -7)])
        self.assertEqual(meeting(turn, late, late, 0), (0, 0))
        self.assertEqual(meeting(turn, nought, {"ann": -LONG, "bob": -LONG, "cy": -LONG}, 0), (0, -LONG))
        self.assertIsNone(meeting(RING, {"ann": 0, "bob": 0, "cy": 0}, {"ann": 0, "bob": 1, "cy": 0}, 300))
        self.assertEqual(meeting(Book([("ann", of("ann"))]), {"ann": 3}, {"ann": 1}, 0), (0, -2))

    def test_errors_in_order(self):
        wrong = [(None, InvalidBook), ({"ann": 0}, InvalidHours), ([], InvalidHours), (True, InvalidCount)]
        right = [RING, HOURS, HOURS, 0]
        for at, (value, error) in enumerate(wrong):
            with self.assertRaises(error) as caught:
                meeting(*right[:at], *[value for value, _ in wrong[at:]])
            self.assertIs(caught.exception.value, value)


if __name__ == "__main__":
    unittest.main()
