"""points and crossed: how many points are on a conic, and which are on a line too."""

import unittest

from planebook.desk import crossed, points, rank
from samples import (LARGEST, PRIMES, all_conics, conics_of, draw, forms, lies, no_square, normal, other_numbers,
                     retold, stream, two_lines, value, wrong_calls)


def both(p, k, l):
    """What crossed is to answer, found by trying every point."""
    found = [x for x in forms(p) if value(p, k, x) == 0 and lies(p, x, l)]
    return [0, len(found)] + [n for x in found for n in x]


class Points(unittest.TestCase):
    def test_example(self):
        self.assertEqual(points(7, [1, 1, 6, 0, 0, 0]), [0, 8])

    def test_ordinary(self):
        for p in PRIMES:
            self.assertEqual(points(p, [0, 1, 0, 0, p - 1, 0]), [0, p + 1])
            self.assertEqual(points(p, [1, 0, 0, 0, 0, 0]), [0, p + 1])
            self.assertEqual(points(p, [1, 1, 0, 0, 0, 2]), [0, p + 1])
            self.assertEqual(points(p, [0, 0, 0, 0, 0, 1]), [0, 2 * p + 1])
            self.assertEqual(points(p, [0, 0, 0, 1, 0, 0]), [0, 2 * p + 1])
            self.assertEqual(points(p, [0, 0, 0, 0, 1, 0]), [0, 2 * p + 1])
            self.assertEqual(points(p, [1, p - no_square(p), 0, 0, 0, 0]), [0, 1])
        # -1 is a square modulo 5 and 13, not modulo 3 and 7.
        self.assertEqual(points(5, [1, 1, 0, 0, 0, 0]), [0, 11])
        self.assertEqual(points(13, [0, 1, 1, 0, 0, 0]), [0, 27])
        self.assertEqual(points(3, [1, 0, 1, 0, 0, 0]), [0, 1])
        self.assertEqual(points(7, [1, 1, 0, 0, 0, 0]), [0, 1])

    def test_every_conic(self):
        for p in (3, 5):
            every = forms(p)
            for k in all_conics(p):
                self.assertEqual(points(p, k), [0, sum(value(p, k, x) == 0 for x in every)], (p, k))

    def test_each_kind(self):
        source = stream(81)
        for p in PRIMES:
            for turn in range(3):
                for rank_told, count, k in conics_of(p, source):
                    self.assertEqual(points(p, k), [0, count], (p, k))
                    self.assertEqual(rank(p, k), [0, rank_told], (p, k))

    def test_some_conics(self):
        source = stream(82)
        for p in PRIMES:
            for turn in range(6):
                k = draw(source, "conic", p)
                self.assertEqual(points(p, k), [0, sum(value(p, k, x) == 0 for x in forms(p))], (p, k))

    def test_same_in_other_numbers(self):
        for p in PRIMES:
            for k, answer in (([1, 1, 0, 0, 0, 2], p + 1), ([0, 1, 0, 1, 0, 0], 2 * p + 1),
                              ([1, p - no_square(p), 0, 0, 0, 0], 1), ([1, 1, p - 1, 0, 0, 0], p + 1)):
                for told in retold(p, k)[::4]:
                    self.assertEqual(points(p, told), [0, answer], (p, told))

    def test_largest_numbers(self):
        # 4294967295 is 3 modulo 7, and 0 modulo 5.
        self.assertEqual(points(7, [LARGEST, LARGEST, 4, 0, 0, 0]), [0, 8])
        self.assertEqual(points(5, [1, 1, LARGEST, LARGEST, LARGEST, LARGEST]), [0, 11])
        self.assertEqual(points(5, [LARGEST] * 6), [-1])

    def test_wrong(self):
        for p in PRIMES:
            for given in wrong_calls(["conic"], (p, [1, 1, 1, 0, 0, 0])):
                self.assertEqual(points(*given), [-1], given)


class Crossed(unittest.TestCase):
    def test_ordinary(self):
        # y y = x z: the line y = 0 meets it at two ends, x = 0 and z = 0 touch it.
        for p in PRIMES:
            k = [0, 1, 0, 0, p - 1, 0]
            self.assertEqual(crossed(p, k, [0, 1, 0]), [0, 2, 0, 0, 1, 1, 0, 0])
            self.assertEqual(crossed(p, k, [1, 0, 0]), [0, 1, 0, 0, 1])
            self.assertEqual(crossed(p, k, [0, 0, 1]), [0, 1, 1, 0, 0])
            # z = n x, n no square.
            self.assertEqual(crossed(p, k, [no_square(p), 0, p - 1]), [0, 0])
            self.assertEqual(crossed(p, k, [1, 0, p - 1]), [0, 2, 1, 1, 1, 1, p - 1, 1])

    def test_the_line_is_part_of_the_conic(self):
        self.assertEqual(crossed(3, [0, 0, 0, 0, 0, 1], [1, 0, 0]), [0, 4, 0, 0, 1, 0, 1, 0, 0, 1, 1, 0, 1, 2])
        source = stream(83)
        for p in PRIMES:
            for turn in range(3):
                l, m = draw(source, "point", p), draw(source, "point", p)
                line = [n for x in forms(p) if lies(p, x, l) for n in x]
                for other in (l, m):
                    answer = crossed(p, two_lines(p, l, other), other_numbers(source, p, l))
                    self.assertEqual(answer, [0, p + 1] + line, (p, l, other))

    def test_every_conic_of_3(self):
        for k in all_conics(3):
            for l in forms(3):
                self.assertEqual(crossed(3, k, l), both(3, k, l), (k, l))

    def test_each_kind(self):
        source = stream(84)
        for p in PRIMES:
            for rank_told, count, k in conics_of(p, source):
                found = set()
                for turn in range(6):
                    l = draw(source, "point", p)
                    answer = crossed(p, k, l)
                    self.assertEqual(answer, both(p, k, l), (p, k, l))
                    found.add(answer[1])
                if rank_told == 3:
                    self.assertLessEqual(found, {0, 1, 2})

    def test_all_lines_of_a_conic(self):
        # Of a rank of 3: p + 1 lines touch it, p (p + 1) / 2 meet it twice, the others miss it.
        for p in (3, 5, 7):
            k = [1, 1, p - 1, 0, 0, 0]
            counts = [crossed(p, k, l)[1] for l in forms(p)]
            self.assertEqual(counts.count(1), p + 1)
            self.assertEqual(counts.count(2), p * (p + 1) // 2)
            self.assertEqual(counts.count(0), p * (p - 1) // 2)

    def test_lines_through_two_points_of_the_conic(self):
        source = stream(85)
        for p in PRIMES:
            k = conics_of(p, source)[-1][2]
            on = [x for x in forms(p) if value(p, k, x) == 0]
            for first, second in ((on[0], on[-1]), (on[1], on[2])):
                l = [first[1] * second[2] - first[2] * second[1], first[2] * second[0] - first[0] * second[2],
                     first[0] * second[1] - first[1] * second[0]]
                self.assertEqual(crossed(p, k, normal(p, l)), [0, 2] + first + second)

    def test_same_in_other_numbers(self):
        for p in PRIMES:
            for k, l in (([0, 1, 0, 0, p - 1, 0], [1, 0, p - 1]), ([0, 1, 0, 0, p - 1, 0], [0, 0, 1]),
                         ([0, 0, 0, 0, 0, 1], [1, 0, 0]), ([1, 0, 0, 0, 0, 0], [0, 1, 2])):
                answer = both(p, k, l)
                for one, other in list(zip(retold(p, k), reversed(retold(p, l))))[::5]:
                    self.assertEqual(crossed(p, one, l), answer, (p, one, l))
                    self.assertEqual(crossed(p, k, other), answer, (p, k, other))
                    self.assertEqual(crossed(p, one, other), answer, (p, one, other))

    def test_wrong(self):
        for p in PRIMES:
            for given in wrong_calls(["conic", "point"], (p, [1, 1, 1, 0, 0, 0], [1, 0, 2])):
                self.assertEqual(crossed(*given), [-1], given)

    def test_conic_and_line_changed_for_one_another(self):
        for p in PRIMES:
            self.assertEqual(crossed(p, [1, 0, 2], [1, 1, 1, 0, 0, 0]), [-1])


if __name__ == "__main__":
    unittest.main()
