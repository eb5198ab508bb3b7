"""map_of, the words' map: the one map that takes four points to four points."""

import itertools
import unittest

from planebook.desk import map_of
from samples import (LARGEST, PRIMES, UNIT, aligned, draw, forms, leibniz, normal, other_numbers, retold, stream,
                     taken, wrong_calls)

BASE = [[1, 0, 0], [0, 1, 0], [0, 0, 1], [1, 1, 1]]


def is_frame(p, four):
    """Whether no three of the four points are on one line."""
    return not any(leibniz(a + b + c) % p == 0 for a, b, c in itertools.combinations(four, 3))


def frame(source, p):
    while True:
        four = [draw(source, "point", p) for place in range(4)]
        if is_frame(p, four):
            return four


class MapOf(unittest.TestCase):
    def test_ordinary(self):
        # Worked out by hand: the columns are the first three images, scaled so that they add up to the fourth.
        self.assertEqual(map_of(7, *BASE, *BASE), [0] + UNIT)
        self.assertEqual(map_of(7, *BASE, [1, 2, 3], [0, 1, 0], [0, 0, 1], [1, 1, 1]), [0, 1, 0, 0, 2, 6, 0, 3, 0, 5])
        self.assertEqual(map_of(5, *BASE, [0, 1, 0], [1, 0, 0], [0, 0, 1], [2, 3, 1]), [0, 0, 1, 0, 4, 0, 0, 0, 0, 3])
        self.assertEqual(map_of(31, *BASE, [0, 0, 1], [1, 0, 0], [0, 1, 0], [1, 5, 3]), [0, 0, 1, 0, 0, 0, 5, 3, 0, 0])
        self.assertEqual(map_of(11, [1, 0, 0], [0, 1, 0], [0, 0, 1], [1, 2, 3], *BASE),
                         [0, 1, 0, 0, 0, 6, 0, 0, 0, 4])

    def test_every_four_of_3(self):
        # There are as many maps as fours without three on one line, 13 * 12 * 9 * 4.
        found = {}
        for four in itertools.permutations(forms(3), 4):
            answer = map_of(3, *BASE, *four)
            if not is_frame(3, four):
                self.assertEqual(answer, [-2], four)
                continue
            self.assertEqual(answer[0], 0)
            self.assertEqual(answer[1:], normal(3, answer[1:]))
            self.assertEqual([normal(3, taken(3, answer[1:], x)) for x in BASE], list(four))
            found[tuple(answer)] = four
        self.assertEqual(len(found), 13 * 12 * 9 * 4)

    def test_takes_the_first_to_the_second(self):
        source = stream(21)
        for p in PRIMES:
            for turn in range(40):
                first, second = frame(source, p), frame(source, p)
                answer = map_of(p, *first, *second)
                self.assertEqual((answer[0], len(answer)), (0, 10))
                self.assertEqual(answer[1:], normal(p, answer[1:]))
                self.assertEqual([normal(p, taken(p, answer[1:], x)) for x in first], [normal(p, x) for x in second])

    def test_finds_the_map_that_was_used(self):
        source = stream(22)
        for p in PRIMES:
            for turn in range(40):
                first, m = frame(source, p), draw(source, "map", p)
                second = [other_numbers(source, p, taken(p, m, x)) for x in first]
                self.assertEqual(map_of(p, *first, *second), [0] + normal(p, m), (p, m))

    def test_a_four_to_itself(self):
        source = stream(23)
        for p in PRIMES:
            first = frame(source, p)
            second = [other_numbers(source, p, x) for x in first]
            self.assertEqual(map_of(p, *first, *second), [0] + UNIT)

    def test_same_in_other_numbers(self):
        for p in PRIMES:
            eight = [[1, 0, 2], [0, 1, 1], [0, 0, 1], [1, 1, 4], [0, 0, 1], [1, 0, 0], [1, 1, p - 1], [2, 1, 0]]
            self.assertTrue(is_frame(p, eight[:4]) and is_frame(p, eight[4:]), p)
            answer = map_of(p, *eight)
            self.assertEqual(answer[0], 0)
            for place in range(8):
                for told in retold(p, eight[place]):
                    given = eight[:place] + [told] + eight[place + 1:]
                    self.assertEqual(map_of(p, *given), answer, (p, given))

    def test_three_on_one_line(self):
        source = stream(24)
        for p in PRIMES:
            for first, second, third in itertools.permutations(range(4), 3):
                if first > second:
                    continue
                four, other = frame(source, p), frame(source, p)
                s, t = 1 + next(source) % (p - 1), 1 + next(source) % (p - 1)
                four[third] = [(s * x + t * y) % p for x, y in zip(four[first], four[second])]
                self.assertTrue(aligned(p, four[first], four[second], four[third]))
                self.assertEqual(map_of(p, *four, *other), [-2], (p, four))
                self.assertEqual(map_of(p, *other, *four), [-2], (p, four))
                self.assertEqual(map_of(p, *four, *four), [-2], (p, four))

    def test_two_the_same(self):
        source = stream(25)
        for p in PRIMES:
            for kept, changed in itertools.permutations(range(4), 2):
                four, other = frame(source, p), frame(source, p)
                for same in (four[kept], other_numbers(source, p, four[kept])):
                    four[changed] = same
                    self.assertEqual(map_of(p, *four, *other), [-2], (p, four))
                    self.assertEqual(map_of(p, *other, *four), [-2], (p, four))
                    self.assertEqual(map_of(p, *four, *four), [-2], (p, four))

    def test_largest_numbers(self):
        big = [[LARGEST, 0, 0], [0, LARGEST, 0], [0, 0, LARGEST], [LARGEST, LARGEST, LARGEST]]
        self.assertEqual(map_of(7, *big, *big), [0] + UNIT)
        self.assertEqual(map_of(31, *big, *BASE), [0] + UNIT)
        self.assertEqual(map_of(5, *BASE, *big), [-1])

    def test_wrong(self):
        for p in PRIMES:
            for given in wrong_calls(["point"] * 8, (p, *BASE, [1, 0, 2], [0, 1, 1], [1, 1, 1], [1, 2, 0])):
                self.assertEqual(map_of(*given), [-1], given)

    def test_wrong_counts_ahead_of_three_on_one_line(self):
        lined = [[1, 0, 0], [0, 1, 0], [1, 1, 0], [0, 0, 1]]
        for first, second in ((lined, BASE), (BASE, lined), (lined, lined)):
            for given in wrong_calls(["point"] * 8, (7, *first, *second)):
                self.assertEqual(map_of(*given), [-1], given)


if __name__ == "__main__":
    unittest.main()
