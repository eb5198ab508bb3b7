"""touched and shared: the lines through a point that touch a conic, and the points of two conics."""

import itertools
import unittest

from planebook.desk import crossed, points, polar, shared, touched
from samples import (CIRCLE, LARGEST, PRIMES, all_conics, conics_of, draw, forms, is_proper, lies, no_square,
                     other_numbers, retold, stream, two_lines, value, wrong_calls)


def counted(found):
    return [0, len(found)] + [n for one in found for n in one]


def tangents(p, k, x):
    """What touched is to answer by the words: trying every line and every point."""
    on = [y for y in forms(p) if value(p, k, y) == 0]
    return counted([l for l in forms(p) if lies(p, x, l) and sum(lies(p, y, l) for y in on) == 1])


def common(p, j, k):
    return counted([x for x in forms(p) if value(p, j, x) == 0 and value(p, k, x) == 0])


class Touched(unittest.TestCase):
    def test_ordinary(self):
        # y y = x z: x = 0 touches it at 0 0 1, z = 0 at 1 0 0; both go through 0 1 0.
        for p in PRIMES:
            k = [0, 1, 0, 0, p - 1, 0]
            self.assertEqual(touched(p, k, [0, 1, 0]), [0, 2, 0, 0, 1, 1, 0, 0])
            self.assertEqual(touched(p, k, [1, 0, 0]), [0, 1, 0, 0, 1])
            self.assertEqual(touched(p, k, [0, 0, 1]), [0, 1, 1, 0, 0])
            # Through 1 1 1 there is z + x = 2 y.
            self.assertEqual(touched(p, k, [1, 1, 1]), [0, 1, 1, p - 2, 1])
            # Of 1 0 c the polar is c x + z = 0: on it y y = x z is y y = - c x x.
            self.assertEqual(touched(p, k, [1, 0, p - no_square(p)]), [0, 0])
            self.assertEqual(touched(p, k, [1, 0, p - 1]), counted(sorted([[1, 2, 1], [1, p - 2, 1]])))

    def test_every_conic_and_point_of_3(self):
        for k in all_conics(3):
            for x in forms(3):
                self.assertEqual(touched(3, k, x), tangents(3, k, x) if is_proper(3, k) else [-3], (k, x))

    def test_every_point_of_some_conics(self):
        # p + 1 points are on the conic, p (p + 1) / 2 outside, p (p - 1) / 2 inside.
        source = stream(101)
        for p in (3, 5, 7, 11):
            for rank_told, count, k in conics_of(p, source)[-3:]:
                counts = []
                for x in forms(p):
                    answer = touched(p, k, x)
                    self.assertEqual(answer, tangents(p, k, x), (p, k, x))
                    self.assertEqual(answer[1] == 1, value(p, k, x) == 0, (p, k, x))
                    counts.append(answer[1])
                self.assertEqual([counts.count(n) for n in range(3)], [p * (p - 1) // 2, p + 1, p * (p + 1) // 2])

    def test_some_points(self):
        source = stream(102)
        for p in PRIMES:
            for rank_told, count, k in conics_of(p, source)[-3:]:
                for turn in range(3):
                    x = draw(source, "point", p)
                    self.assertEqual(touched(p, k, x), tangents(p, k, x), (p, k, x))

    def test_on_the_conic_it_is_the_polar(self):
        source = stream(103)
        for p in PRIMES:
            k = conics_of(p, source)[-1][2]
            for x in [x for x in forms(p) if value(p, k, x) == 0]:
                self.assertEqual(touched(p, k, x), [0, 1] + polar(p, k, x)[1:], (p, k, x))

    def test_outside_and_inside(self):
        source = stream(104)
        for p in PRIMES:
            k = conics_of(p, source)[-2][2]
            on = [x for x in forms(p) if value(p, k, x) == 0]
            lines = [polar(p, k, x)[1:] for x in on]
            outside = [x for x in forms(p) if sum(lies(p, x, l) for l in lines) == 2]
            inside = [x for x in forms(p) if not any(lies(p, x, l) for l in lines)]
            for x in outside[::len(outside) // 3]:
                self.assertEqual(touched(p, k, x), counted(sorted(l for l in lines if lies(p, x, l))), (p, k, x))
            for x in inside[::len(inside) // 3]:
                self.assertEqual(touched(p, k, x), [0, 0], (p, k, x))

    def test_same_in_other_numbers(self):
        for p in PRIMES:
            k = [0, 1, 0, 0, p - 1, 0]
            for x in ([0, 1, 0], [1, 1, 1], [1, 0, p - no_square(p)]):
                answer = tangents(p, k, x)
                for one, other in list(zip(retold(p, k), reversed(retold(p, x))))[::7]:
                    self.assertEqual(touched(p, one, x), answer, (p, one, x))
                    self.assertEqual(touched(p, k, other), answer, (p, k, other))
                    self.assertEqual(touched(p, one, other), answer, (p, one, other))

    def test_rank_is_not_3(self):
        source = stream(105)
        for p in PRIMES:
            for rank_told, count, k in conics_of(p, source):
                x = draw(source, "point", p)
                self.assertEqual(touched(p, k, x)[0], 0 if rank_told == 3 else -3, (p, k, x))
            l = draw(source, "point", p)
            self.assertEqual(touched(p, two_lines(p, l, l), l), [-3])
            for k in ([1, 1, p, 0, 0, 0], [p, 1, 1, 0, 0, 0], [1, p, 1, 0, 0, 0], [p, p, 1, p, p, p]):
                self.assertEqual(touched(p, k, [1, 2, 1]), [-3], (p, k))

    def test_largest_numbers(self):
        # 4294967295 is 3 modulo 7.
        self.assertEqual(touched(7, [0, LARGEST, 0, 0, 4, 0], [0, LARGEST, 7]), [0, 2, 0, 0, 1, 1, 0, 0])

    def test_wrong(self):
        for p in PRIMES:
            for given in wrong_calls(["conic", "point"], (p, CIRCLE, [1, 0, 2])):
                self.assertEqual(touched(*given), [-1], given)

    def test_wrong_counts_ahead_of_the_rank(self):
        for k in ([1, 0, 0, 0, 0, 0], [1, 1, 0, 0, 0, 0], [0, 0, 0, 0, 0, 1]):
            for given in wrong_calls(["conic", "point"], (7, k, [1, 0, 2])):
                self.assertEqual(touched(*given), [-1], given)

    def test_conic_and_point_changed_for_one_another(self):
        for p in PRIMES:
            self.assertEqual(touched(p, [1, 0, 2], CIRCLE), [-1])


class Shared(unittest.TestCase):
    def test_ordinary(self):
        for p in PRIMES:
            # y y = x z and x y = 0: x = 0 at 0 0 1, y = 0 there and at 1 0 0.
            self.assertEqual(shared(p, [0, 1, 0, 0, p - 1, 0], [0, 0, 0, 0, 0, 1]), [0, 2, 0, 0, 1, 1, 0, 0])
            # x x = z z and y y = z z.
            self.assertEqual(shared(p, [1, 0, p - 1, 0, 0, 0], [0, 1, p - 1, 0, 0, 0]),
                             [0, 4, 1, 1, 1, 1, 1, p - 1, 1, p - 1, 1, 1, p - 1, p - 1])
            # x y and y z: the line y = 0, and 0 1 0.
            self.assertEqual(shared(p, [0, 0, 0, 0, 0, 1], [0, 0, 0, 1, 0, 0]),
                             counted([[0, 0, 1], [0, 1, 0], [1, 0, 0]] + [[1, 0, z] for z in range(1, p)]))

    def test_no_point_in_common(self):
        for p in PRIMES:
            n = no_square(p)
            # x x = n y y has 0 0 1 alone, which z z = 0 and x x + y y = z z don't have.
            self.assertEqual(shared(p, [1, p - n, 0, 0, 0, 0], [0, 0, 1, 0, 0, 0]), [0, 0])
            self.assertEqual(shared(p, [1, 1, p - 1, 0, 0, 0], [1, p - n, 0, 0, 0, 0]), [0, 0])
            self.assertEqual(shared(p, [1, p - n, 0, 0, 0, 0], [0, 1, p - n, 0, 0, 0]), [0, 0])
            # x x = n y y + z z and x x = n y y + n z z differ by z z, and at z 0 there is none.
            self.assertEqual(shared(p, [1, p - n, p - 1, 0, 0, 0], [1, p - n, p - n, 0, 0, 0]), [0, 0])

    def test_the_two_the_same(self):
        source = stream(111)
        for p in PRIMES:
            for rank_told, count, k in conics_of(p, source):
                answer = shared(p, k, other_numbers(source, p, k))
                self.assertEqual(answer, common(p, k, k), (p, k))
                self.assertEqual([0, answer[1]], points(p, k))

    def test_a_line_in_common(self):
        source = stream(112)
        for p in PRIMES:
            for turn in range(3):
                l, m, n = [draw(source, "point", p) for place in range(3)]
                j, k = two_lines(p, l, m), two_lines(p, l, n)
                answer = shared(p, j, k)
                self.assertEqual(answer, common(p, j, k), (p, j, k))
                self.assertGreaterEqual(answer[1], p + 1)
                self.assertEqual(shared(p, two_lines(p, l, l), k), crossed(p, k, l))

    def test_every_two_of_some_kinds(self):
        source = stream(113)
        for p in PRIMES:
            for first, second in itertools.combinations(conics_of(p, source), 2):
                if next(source) % 3 == 0:
                    j, k = first[2], second[2]
                    self.assertEqual(shared(p, j, k), common(p, j, k), (p, j, k))
                    self.assertEqual(shared(p, k, j), common(p, j, k), (p, j, k))

    def test_some_conics_of_3_with_every_conic(self):
        for j in ([1, 1, 1, 0, 0, 0], [0, 0, 0, 1, 0, 0], [1, 1, 0, 0, 0, 0], [1, 0, 0, 0, 0, 0]):
            for k in all_conics(3):
                self.assertEqual(shared(3, j, k), common(3, j, k), (j, k))

    def test_same_in_other_numbers(self):
        for p in PRIMES:
            for j, k in (([0, 1, 0, 0, p - 1, 0], [0, 0, 0, 0, 0, 1]),
                         ([1, 0, p - 1, 0, 0, 0], [0, 1, p - 1, 0, 0, 0])):
                answer = common(p, j, k)
                for one, other in list(zip(retold(p, j), reversed(retold(p, k))))[::5]:
                    self.assertEqual(shared(p, one, k), answer, (p, one, k))
                    self.assertEqual(shared(p, j, other), answer, (p, j, other))
                    self.assertEqual(shared(p, one, other), answer, (p, one, other))

    def test_largest_numbers(self):
        # 4294967295 is 3 modulo 7.
        self.assertEqual(shared(7, [0, LARGEST, 0, 0, 4, 0], [0, 0, 7, 0, 0, LARGEST]), [0, 2, 0, 0, 1, 1, 0, 0])

    def test_wrong(self):
        for p in PRIMES:
            for given in wrong_calls(["conic", "conic"], (p, CIRCLE, [0, 1, 2, 1, 0, 0])):
                self.assertEqual(shared(*given), [-1], given)


if __name__ == "__main__":
    unittest.main()
