"""Points 90 to 94: stairs."""

import unittest

from leafwaits.errors import InvalidCorners, InvalidCount, InvalidStair, InvalidWhole
from leafwaits.stairs import Stair, first_of, first_unlike, last_of, put_behind, rank_of, widest_stair
from support import any_objects, seeded

LONG = 10 ** 29 + 7
FAR = 40


def told_by_steps(begin, corners, most):
    """What a stair tells for the counts from 0 to `most`, step by step, by the words of point 90."""
    told = [begin]
    rises = False
    for count in range(most):
        if count in corners:
            rises = not rises
        told.append(told[-1] + rises)
    return told


def random_stair(rng, most=12, corners=5, begin=4):
    return Stair(rng.randint(-begin, begin), sorted(rng.sample(range(most), rng.randint(0, corners))))


def told_along(stair, most=FAR):
    return told_by_steps(stair.begin, stair.corners, most)


class StairTest(unittest.TestCase):
    def test_begin_and_corners(self):
        corners = [0, 4, LONG]
        stair = Stair(begin=-LONG, corners=corners)
        corners.append(3)
        stair.corners.clear()
        self.assertEqual((stair.begin, stair.corners), (-LONG, [0, 4, LONG]))
        self.assertIsNot(stair.corners, stair.corners)

    def test_value(self):
        rng = seeded(1)
        for _ in range(100):
            stair = random_stair(rng)
            self.assertEqual([stair.value(count=count) for count in range(FAR + 1)], told_along(stair))
        self.assertEqual([Stair(3, []).value(count) for count in [0, 1, LONG]], [3, 3, 3])
        self.assertEqual([Stair(3, [0]).value(count) for count in [0, 1, LONG]], [3, 4, LONG + 3])
        self.assertEqual([Stair(0, [2]).value(count) for count in [1, 2, 3, LONG]], [0, 0, 1, LONG - 2])
        self.assertEqual([Stair(-LONG, [2, LONG]).value(count) for count in [2, LONG, LONG + 1, 9 * LONG]],
                         [-LONG, -2, -2, -2])

    def test_end(self):
        rng = seeded(2)
        for _ in range(100):
            stair = random_stair(rng)
            told = told_along(stair)
            self.assertEqual(stair.end(), None if told[-1] > told[-2] else told[-1])
        self.assertEqual([Stair(5, []).end(), Stair(5, [0]).end(), Stair(-5, [1, 3]).end(), Stair(0, [2, LONG]).end()],
                         [5, None, -3, LONG - 2])

    def test_undone(self):
        rng = seeded(3)
        for _ in range(200):
            stair = random_stair(rng)
            told = told_along(stair)
            for number in range(-8, 14):
                below = [count for count in range(FAR + 1) if told[count] <= number]
                expected = None if len(below) == FAR + 1 else below[-1] if below else -1
                self.assertEqual(stair.undone(number=number), expected)
        self.assertEqual([Stair(4, []).undone(number) for number in [3, 4, LONG, -LONG]], [-1, None, None, -1])
        self.assertEqual([Stair(4, [7]).undone(number) for number in [3, 4, 5, LONG]], [-1, 7, 8, LONG + 3])
        self.assertEqual([Stair(4, [0, LONG]).undone(number) for number in [4, LONG, LONG + 3, LONG + 4]],
                         [0, LONG - 4, LONG - 1, None])

    def test_shifted(self):
        rng = seeded(4)
        for _ in range(50):
            stair = random_stair(rng)
            by = rng.randint(-LONG, LONG)
            moved = stair.shifted(by=by)
            self.assertTrue(moved == Stair(stair.begin + by, stair.corners))
            self.assertEqual(moved.value(9), stair.value(9) + by)
        self.assertTrue(stair.shifted(0) == stair)

    def test_equal(self):
        stair = Stair(0, [1, 3])
        self.assertTrue(stair == Stair(0, [1, 3]))
        self.assertFalse(stair != Stair(0, [1, 3]))
        for other in [Stair(1, [1, 3]), Stair(0, [1]), Stair(0, [1, 3, 4]), Stair(0, [1, 4]), Stair(0, [])]:
            self.assertFalse(stair == other)
        for value in any_objects() + [0, [1, 3], (0, [1, 3])]:
            self.assertFalse(stair == value)

    def test_equal_just_if_the_same_is_told(self):
        rng = seeded(5)
        for _ in range(300):
            one, other = random_stair(rng, 4, 3, 1), random_stair(rng, 4, 3, 1)
            self.assertIs(one == other, told_along(one) == told_along(other))

    def test_no_corners(self):
        wrong = [None, (), (1, 2), [1, 1], [2, 1], [-1], [-1, 2], [True], [0, True], [None], ["1"], [[1]], {}, 3, "12",
                 [1, 2, 2], [0, 5, 4], {1: 2}, Stair(0, []), [1, None], [LONG, LONG]]
        for value in wrong:
            with self.assertRaises(InvalidCorners) as caught:
                Stair(0, value)
            self.assertIs(caught.exception.value, value)
            for begin in [None, True, "1", [0], (0,), Stair(0, [])]:
                with self.assertRaises(InvalidWhole) as caught:
                    Stair(begin, value)
                self.assertIs(caught.exception.value, begin)

    def test_wrong_arguments_of_methods(self):
        stair = Stair(0, [1])
        for value in [-1, True, None, "1", [1], stair]:
            with self.assertRaises(InvalidCount) as caught:
                stair.value(value)
            self.assertIs(caught.exception.value, value)
        for value in [True, None, "1", [1], stair]:
            for call in [stair.undone, stair.shifted]:
                with self.assertRaises(InvalidWhole) as caught:
                    call(value)
                self.assertIs(caught.exception.value, value)


class RankTest(unittest.TestCase):
    def check(self, stair, expected):
        self.assertEqual(told_along(stair), expected)

    def test_by_definition(self):
        rng = seeded(6)
        for _ in range(300):
            stairs = [random_stair(rng) for _ in range(rng.randint(1, 6))]
            told = [sorted(numbers) for numbers in zip(*[told_along(stair) for stair in stairs])]
            self.check(first_of(stairs=stairs), [numbers[0] for numbers in told])
            self.check(last_of(stairs=stairs), [numbers[-1] for numbers in told])
            for number in range(1, len(stairs) + 1):
                self.check(rank_of(number=number, stairs=stairs), [numbers[number - 1] for numbers in told])

    def test_far_numbers(self):
        one, other = Stair(-LONG, [0]), Stair(3, [LONG, 2 * LONG])
        self.assertTrue(first_of([one, other]) == Stair(-LONG, [0, 2 * LONG + 3]))
        self.assertTrue(last_of([one, other]) == Stair(3, [LONG, 2 * LONG, 2 * LONG + 3]))
        for count in [0, LONG, LONG + 3, LONG + 4, 2 * LONG, 2 * LONG + 3, 3 * LONG]:
            both = [one.value(count), other.value(count)]
            self.assertEqual(first_of([one, other]).value(count), min(both))
            self.assertEqual(last_of([one, other]).value(count), max(both))

    def test_the_same_stair_more_than_once(self):
        one, other = Stair(0, [2, 4]), Stair(1, [])
        self.assertTrue(rank_of(2, [one, one, other]) == one and rank_of(2, [other, one, one]) == one)
        self.assertEqual(told_along(rank_of(2, [one, one, other]), 6), [0, 0, 0, 1, 2, 2, 2])
        self.assertTrue(rank_of(1, [one]) == one and first_of([one]) == one and last_of([one, one]) == one)

    def test_lists_are_not_changed(self):
        stairs = [Stair(0, [2, 4]), Stair(1, [])]
        last_of(stairs)
        self.assertEqual([(stair.begin, stair.corners) for stair in stairs], [(0, [2, 4]), (1, [])])

    def test_errors(self):
        stair = Stair(0, [1])
        lists = [None, [], (stair,), [None], [stair, (0, [1])], stair, {"a": stair}, [stair] * 7, [[stair]], [stair, True]]
        for value in lists:
            for call in [first_of, last_of, lambda stairs: rank_of(1, stairs), lambda stairs: rank_of(9, stairs)]:
                with self.assertRaises(InvalidStair) as caught:
                    call(value)
                self.assertIs(caught.exception.value, value)
        for number in [0, -1, True, None, "1", [1], stair]:
            for stairs in lists + [[stair]]:
                with self.assertRaises(InvalidCount) as caught:
                    rank_of(number, stairs)
                self.assertIs(caught.exception.value, number)
        for number, stairs in [(2, [stair]), (7, [stair] * 6), (LONG, [stair] * 2)]:
            with self.assertRaises(InvalidCount) as caught:
                rank_of(number, stairs)
            self.assertIs(caught.exception.value, number)
        self.assertTrue(rank_of(6, [stair] * 6) == stair)


class PairsTest(unittest.TestCase):
    def test_put_behind(self):
        rng = seeded(7)
        for _ in range(400):
            one, other = random_stair(rng), random_stair(rng)
            one = one.shifted(max(0, -one.begin))
            expected = [other.value(count) for count in told_along(one)]
            self.assertEqual(told_along(put_behind(one=one, other=other)), expected)
            self.assertTrue(put_behind(Stair(0, [0]), other) == other)
            self.assertTrue(put_behind(one, Stair(0, [0])) == one)
        self.assertTrue(put_behind(Stair(LONG, [1]), Stair(-5, [2 * LONG])) == Stair(-5, [LONG + 1]))
        self.assertTrue(put_behind(Stair(3, []), Stair(0, [0])) == Stair(3, []))
        self.assertTrue(put_behind(Stair(3, [1, 5]), Stair(0, [7])) == Stair(0, []))

    def test_put_behind_errors(self):
        right = Stair(0, [1])
        for value in any_objects() + [Stair(-1, [0]), Stair(-LONG, [])]:
            if isinstance(value, Stair) and value.begin >= 0:
                continue
            for other in [right, None]:
                with self.assertRaises(InvalidStair) as caught:
                    put_behind(value, other)
                self.assertIs(caught.exception.value, value)
            if not isinstance(value, Stair):
                with self.assertRaises(InvalidStair) as caught:
                    put_behind(right, value)
                self.assertIs(caught.exception.value, value)
        self.assertTrue(put_behind(right, Stair(-1, [0])) == Stair(-1, [1]))

    def test_first_unlike(self):
        rng = seeded(8)
        found = set()
        for _ in range(400):
            one, other = random_stair(rng, 6, 4, 0), random_stair(rng, 6, 4, 0)
            if rng.random() < 0.2:
                other = other.shifted(rng.randint(-1, 1))
            unlike = [count for count in range(FAR) if one.value(count) != other.value(count)]
            answer = first_unlike(one=one, other=other)
            self.assertEqual(answer, unlike[0] if unlike else None)
            self.assertEqual(first_unlike(other, one), answer)
            found.add(answer)
        self.assertTrue({None, 0, 1, 2, 3, 4} <= found)
        self.assertEqual(first_unlike(Stair(0, [0, LONG]), Stair(0, [0])), LONG + 1)
        self.assertEqual(first_unlike(Stair(0, [0, 3, LONG]), Stair(0, [0, 3, LONG + 2])), LONG + 1)

    def test_widest_stair(self):
        rng = seeded(9)
        for _ in range(400):
            one, other = random_stair(rng), random_stair(rng)
            gaps = [told - less for told, less in zip(told_along(one), told_along(other))]
            answer = widest_stair(one=one, other=other)
            self.assertEqual(answer, None if one.end() is None and other.end() is not None else max(gaps))
        self.assertEqual(widest_stair(Stair(-9, [0, 3]), Stair(2, [])), -8)
        self.assertEqual(widest_stair(Stair(0, [0]), Stair(0, [LONG])), LONG)
        self.assertEqual(widest_stair(Stair(0, [LONG, 2 * LONG]), Stair(0, [LONG])), 0)
        self.assertIsNone(widest_stair(Stair(-LONG, [LONG]), Stair(LONG, [0, LONG])))

    def test_errors_of_both(self):
        right = Stair(-3, [1])
        for call in [first_unlike, widest_stair]:
            for value in any_objects():
                if not isinstance(value, Stair):
                    for arguments in [(value, None), (value, right), (right, value)]:
                        with self.assertRaises(InvalidStair) as caught:
                            call(*arguments)
                        self.assertIs(caught.exception.value, value)


if __name__ == "__main__":
    unittest.main()
