"""on: whether a point is on a line."""

import unittest

from planebook.desk import on
from samples import LARGEST, PRIMES, WRONG_PRIMES, forms, retold, wrong_triples


class On(unittest.TestCase):
    def test_ordinary(self):
        self.assertEqual(on(3, [1, 1, 1], [1, 1, 1]), [0, 1])
        self.assertEqual(on(3, [1, 1, 1], [1, 1, 2]), [0, 0])
        self.assertEqual(on(7, [1, 0, 0], [0, 0, 1]), [0, 1])
        self.assertEqual(on(7, [1, 0, 0], [1, 0, 0]), [0, 0])
        self.assertEqual(on(7, [1, 2, 3], [4, 5, 0]), [0, 1])
        self.assertEqual(on(7, [1, 2, 3], [4, 5, 1]), [0, 0])
        self.assertEqual(on(31, [5, 5, 6], [3, 2, 1]), [0, 1])
        self.assertEqual(on(31, [5, 5, 7], [3, 2, 1]), [0, 0])

    def test_each_number_counts(self):
        for p in PRIMES:
            self.assertEqual(on(p, [1, 1, 0], [1, p - 1, 0]), [0, 1])
            self.assertEqual(on(p, [1, 0, 1], [1, 0, p - 1]), [0, 1])
            self.assertEqual(on(p, [0, 1, 1], [0, 1, p - 1]), [0, 1])
            self.assertEqual(on(p, [1, 0, 0], [1, p - 1, 0]), [0, 0])
            self.assertEqual(on(p, [0, 1, 0], [1, p - 1, 0]), [0, 0])
            self.assertEqual(on(p, [0, 1, 1], [1, p - 1, 0]), [0, 0])
            self.assertEqual(on(p, [0, 0, 1], [1, p - 1, 0]), [0, 1])

    def test_largest_numbers(self):
        # 4294967295 is 0 modulo 3, 5 and 17, and 3 modulo 7 and 31.
        self.assertEqual(on(7, [LARGEST, 4, 0], [1, 1, LARGEST]), [0, 1])
        self.assertEqual(on(7, [LARGEST, 4, 1], [1, 1, LARGEST]), [0, 0])
        self.assertEqual(on(17, [LARGEST, 1, 1], [1, LARGEST, 17]), [0, 1])
        self.assertEqual(on(31, [LARGEST, LARGEST, LARGEST], [LARGEST, LARGEST, 25]), [0, 1])
        self.assertEqual(on(31, [LARGEST, LARGEST, LARGEST], [LARGEST, LARGEST, LARGEST]), [0, 0])

    def test_every_point_and_line(self):
        for p in (3, 5, 7):
            for line in forms(p):
                lies = [on(p, point, line) for point in forms(p)]
                expected = [[0, 1] if sum(a * b for a, b in zip(point, line)) % p == 0 else [0, 0]
                            for point in forms(p)]
                self.assertEqual(lies, expected)

    def test_every_line_has_p_and_1_points(self):
        for p in PRIMES:
            points = forms(p)
            for line in ([0, 0, 1], [0, 1, 2], [1, 0, 0], [1, 2, 0], [1, p - 1, p - 1]):
                self.assertEqual(sum(on(p, point, line)[1] for point in points), p + 1)
                self.assertEqual(sum(on(p, line, through)[1] for through in points), p + 1)

    def test_same_in_other_numbers(self):
        for p in PRIMES:
            for x, l, answer in (([1, 1, 0], [1, p - 1, 2], 1), ([1, 1, 1], [1, p - 1, 2], 0),
                                 ([0, 0, 1], [0, 1, 0], 1), ([0, 1, 1], [0, 1, 0], 0)):
                for point in retold(p, x):
                    self.assertEqual(on(p, point, l), [0, answer], (p, point, l))
                for line in retold(p, l):
                    self.assertEqual(on(p, x, line), [0, answer], (p, x, line))
                for point, line in zip(retold(p, x), reversed(retold(p, l))):
                    self.assertEqual(on(p, point, line), [0, answer], (p, point, line))

    def test_wrong_p(self):
        for p in WRONG_PRIMES:
            self.assertEqual(on(p, [1, 0, 0], [0, 1, 0]), [-1], p)
            self.assertEqual(on(p, [1, 0, 0], [1, 0, 0]), [-1], p)

    def test_point_alone_wrong(self):
        for p in PRIMES:
            for x in wrong_triples(p):
                self.assertEqual(on(p, x, [0, 1, 2]), [-1], (p, x))

    def test_line_alone_wrong(self):
        for p in PRIMES:
            for l in wrong_triples(p):
                self.assertEqual(on(p, [0, 1, 2], l), [-1], (p, l))

    def test_both_wrong(self):
        for p in PRIMES:
            for x in wrong_triples(p):
                for l in wrong_triples(p):
                    self.assertEqual(on(p, x, l), [-1], (p, x, l))

    def test_all_wrong(self):
        for p in (0, 1, 2, 9, 37, LARGEST):
            for x in ([], [0, 0, 0], [p, p, p], [1] * 9):
                self.assertEqual(on(p, x, x), [-1], (p, x))


if __name__ == "__main__":
    unittest.main()
