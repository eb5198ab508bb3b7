"""fixed: the points that a map leaves where they are."""

import unittest

from kinds_of_map import kinds
from planebook.desk import fixed
from samples import (LARGEST, PRIMES, UNIT, all_maps, changed, draw, forms, lies, normal, other_numbers, retold, stream,
                     taken, wrong_calls)


def tried(p, m):
    """The answer by the words: trying every point, and every line."""
    points = forms(p)
    stay = [x for x in points if normal(p, taken(p, m, x)) == x]
    if len(stay) == len(points):
        return [0, 2, 0]
    away = [x for x in points if x not in stay]
    lines = [line for line in points if not any(lies(p, x, line) for x in away)] if len(stay) > p else []
    lone = [x for x in stay if not any(lies(p, x, line) for line in lines)]
    assert len(lines) < 2
    return [0, len(lines)] + [n for line in lines for n in line] + [len(lone)] + [n for x in lone for n in x]


class Fixed(unittest.TestCase):
    def test_example(self):
        self.assertEqual(fixed(7, [1, 0, 0, 0, 2, 0, 0, 0, 4]), [0, 0, 3, 0, 0, 1, 0, 1, 0, 1, 0, 0])

    def test_ordinary(self):
        self.assertEqual(fixed(7, UNIT), [0, 2, 0])
        # The cyclic change of x, y, z leaves what k multiplies, k k k being 1: for 7 these are 1, 2, 4.
        self.assertEqual(fixed(7, [0, 0, 1, 1, 0, 0, 0, 1, 0]), [0, 0, 3, 1, 1, 1, 1, 2, 4, 1, 4, 2])
        self.assertEqual(fixed(5, [0, 0, 1, 1, 0, 0, 0, 1, 0]), [0, 0, 1, 1, 1, 1])
        self.assertEqual(fixed(3, [0, 0, 1, 1, 0, 0, 0, 1, 0]), [0, 0, 1, 1, 1, 1])
        # x and y changed for one another: the line x = y, and 1 -1 0.
        self.assertEqual(fixed(11, [0, 1, 0, 1, 0, 0, 0, 0, 1]), [0, 1, 1, 10, 0, 1, 1, 10, 0])
        self.assertEqual(fixed(31, [1, 0, 0, 0, 1, 0, 2, 3, 1]), [0, 1, 1, 17, 0, 0])

    def test_two_equal_eigenvalues_with_one_point_or_a_line(self):
        self.assertEqual(fixed(5, [1, 1, 0, 0, 1, 0, 0, 0, 2]), [0, 0, 2, 0, 0, 1, 1, 0, 0])
        self.assertEqual(fixed(5, [1, 0, 0, 0, 1, 0, 0, 0, 2]), [0, 1, 0, 0, 1, 1, 0, 0, 1])

    def test_each_kind(self):
        for p in PRIMES:
            for name, (m, turns, answer) in kinds(p).items():
                self.assertEqual(fixed(p, m), [0] + answer, (p, name))

    def test_each_kind_seen_from_elsewhere(self):
        source = stream(61)
        for p in PRIMES:
            for name, (m, turns, answer) in kinds(p).items():
                other = other_numbers(source, p, changed(p, draw(source, "map", p), m))
                got = fixed(p, other)
                self.assertEqual(got, tried(p, other), (p, name, other))
                self.assertEqual((len(got), got[1]), (1 + len(answer), answer[0]), (p, name, other))

    def test_every_map_of_3(self):
        for m in all_maps(3):
            self.assertEqual(fixed(3, m), tried(3, m), m)

    def test_some_maps(self):
        source = stream(62)
        for p in PRIMES:
            for turn in range(10):
                m = draw(source, "map", p)
                self.assertEqual(fixed(p, m), tried(p, m), (p, m))

    def test_lines_of_every_number(self):
        # The line's points are multiplied by k, the lone point by 1.
        for p in PRIMES:
            for k in range(2, p):
                self.assertEqual(fixed(p, [k, 0, 0, 0, 1, 0, 0, 0, k]), [0, 1, 0, 1, 0, 1, 0, 1, 0], (p, k))

    def test_the_line_by_each_row(self):
        for p in PRIMES:
            self.assertEqual(fixed(p, [1, 0, 2, 0, 1, 0, 0, 0, 1]), [0, 1, 0, 0, 1, 0])
            self.assertEqual(fixed(p, [1, 0, 0, 1, 1, 2, 0, 0, 1]), [0, 1, 1, 0, 2, 0])
            self.assertEqual(fixed(p, [1, 0, 0, 0, 1, 0, 2, 2, 1]), [0, 1, 1, 1, 0, 0])

    def test_multiples_of_the_unit(self):
        for p in PRIMES:
            for told in retold(p, UNIT):
                self.assertEqual(fixed(p, told), [0, 2, 0], (p, told))

    def test_same_in_other_numbers(self):
        for p in PRIMES:
            for name, (m, turns, answer) in kinds(p).items():
                for told in retold(p, m)[::5]:
                    self.assertEqual(fixed(p, told), [0] + answer, (p, name, told))

    def test_largest_numbers(self):
        # 4294967295 is 3 modulo 7.
        self.assertEqual(fixed(7, [LARGEST, 0, 0, 0, 1, 0, 0, 0, 1]), [0, 1, 1, 0, 0, 1, 1, 0, 0])
        self.assertEqual(fixed(7, [LARGEST, 0, 0, 0, 1, 0, 0, 0, 2]), [0, 0, 3, 0, 0, 1, 0, 1, 0, 1, 0, 0])

    def test_wrong(self):
        for p in PRIMES:
            for given in wrong_calls(["map"], (p, [1, 2, 3, 0, 1, 4, 5, 6, 0])):
                self.assertEqual(fixed(*given), [-1], given)


if __name__ == "__main__":
    unittest.main()
