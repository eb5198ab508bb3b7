"""join: the line of two points, the point of two lines."""

import unittest

from planebook.desk import join
from samples import LARGEST, PRIMES, draw, forms, lies, normal, other_numbers, retold, stream, wrong_calls


def tried(p, x, y):
    """The answer for two different points, found by trying every line."""
    found = [line for line in forms(p) if lies(p, x, line) and lies(p, y, line)]
    return [0] + found[0] if len(found) == 1 else [-2]


class Join(unittest.TestCase):
    def test_example(self):
        self.assertEqual(join(7, [1, 0, 0], [0, 1, 0]), [0, 0, 0, 1])

    def test_ordinary(self):
        self.assertEqual(join(3, [1, 1, 1], [1, 2, 0]), [0, 1, 1, 1])
        self.assertEqual(join(5, [1, 0, 2], [0, 1, 3]), [0, 1, 4, 2])
        self.assertEqual(join(7, [1, 2, 3], [4, 5, 6]), [0, 1, 5, 1])
        self.assertEqual(join(11, [1, 2, 3], [4, 5, 6]), [0, 1, 9, 1])
        self.assertEqual(join(31, [0, 0, 1], [5, 10, 0]), [0, 1, 15, 0])
        self.assertEqual(join(31, [0, 1, 0], [0, 0, 1]), [0, 1, 0, 0])

    def test_every_two(self):
        for p in (3, 5):
            for x in forms(p):
                for y in forms(p):
                    self.assertEqual(join(p, x, y), tried(p, x, y), (p, x, y))

    def test_some_two_of_every_p(self):
        source = stream(2)
        for p in PRIMES:
            for turn in range(12):
                x, y = draw(source, "point", p), draw(source, "point", p)
                self.assertEqual(join(p, x, y), tried(p, x, y), (p, x, y))
                self.assertEqual(join(p, y, x), tried(p, x, y), (p, x, y))

    def test_the_joins_of_a_point_s_lines_are_the_point(self):
        for p in PRIMES:
            points = forms(p)
            for x in ([0, 0, 1], [0, 1, 2], [1, 0, 0], [1, 2, 0], [1, p - 1, p - 1]):
                lines = [l for l in points if lies(p, x, l)]
                for other in lines[1:]:
                    self.assertEqual(join(p, lines[0], other), [0] + x)

    def test_same_in_other_numbers(self):
        for p in PRIMES:
            for x, y in (([1, 2, 3], [1, 1, 0]), ([0, 1, p - 1], [0, 0, 1]), ([1, 0, 0], [1, 1, 1])):
                answer = join(p, x, y)
                self.assertEqual(answer[0], 0)
                for first, second in zip(retold(p, x), reversed(retold(p, y))):
                    self.assertEqual(join(p, first, y), answer, (p, first, y))
                    self.assertEqual(join(p, x, second), answer, (p, x, second))
                    self.assertEqual(join(p, first, second), answer, (p, first, second))

    def test_the_two_the_same(self):
        for p in PRIMES:
            for x in ([1, 2, 3], [0, 1, p - 1], [0, 0, 1], [1, 0, 0], [0, 1, 0]):
                self.assertEqual(join(p, x, x), [-2])
                for told in retold(p, x):
                    self.assertEqual(join(p, x, told), [-2], (p, x, told))
                    self.assertEqual(join(p, told, x), [-2], (p, x, told))

    def test_every_point_with_itself_in_other_numbers(self):
        source = stream(3)
        for p in PRIMES:
            for x in forms(p):
                self.assertEqual(join(p, x, other_numbers(source, p, x)), [-2], (p, x))

    def test_largest_numbers(self):
        # 4294967295 is 3 modulo 7 and 31, and 0 modulo 5.
        self.assertEqual(join(7, [LARGEST, 0, 0], [0, LARGEST, 7]), [0, 0, 0, 1])
        self.assertEqual(join(31, [LARGEST, LARGEST, 1], [1, 1, 1]), [0] + normal(31, [2, 29, 0]))
        self.assertEqual(join(5, [LARGEST, 1, LARGEST], [0, 4294967294, 5]), [-2])

    def test_wrong(self):
        for p in PRIMES:
            for given in wrong_calls(["point", "point"], (p, [1, 0, 2], [0, 1, 1])):
                self.assertEqual(join(*given), [-1], given)

    def test_wrong_counts_ahead_of_the_same(self):
        for given in wrong_calls(["point", "point"], (7, [1, 2, 3], [2, 4, 6])):
            self.assertEqual(join(*given), [-1], given)
        for p in PRIMES:
            self.assertEqual(join(p, [0, 0, 0], [0, 0, 0]), [-1])
            self.assertEqual(join(p, [p, 0, p], [0, p, 0]), [-1])
        self.assertEqual(join(9, [1, 2, 3], [1, 2, 3]), [-1])


if __name__ == "__main__":
    unittest.main()
