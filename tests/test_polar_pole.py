"""polar and pole: the line that a conic gives a point, and the point that it gives a line."""

import unittest

from planebook.desk import crossed, polar, pole
from samples import (CIRCLE, LARGEST, PRIMES, all_conics, conics_of, draw, forms, is_proper, lies, normal,
                     other_numbers, polar_of, retold, stream, two_lines, value, wrong_calls)


def proper(source, p):
    """Some conic of rank 3."""
    while True:
        k = draw(source, "conic", p)
        if is_proper(p, k):
            return k


class Polar(unittest.TestCase):
    def test_ordinary(self):
        self.assertEqual(polar(7, [1, 1, 6, 0, 0, 0], [1, 0, 1]), [0, 1, 0, 6])
        self.assertEqual(polar(7, [1, 1, 6, 0, 0, 0], [0, 0, 1]), [0, 0, 0, 1])
        self.assertEqual(polar(3, CIRCLE, [1, 2, 0]), [0, 1, 2, 0])
        # The matrix is 2 6 5, 6 4 4, 5 4 6, its determinant -60.
        self.assertEqual(polar(31, [1, 2, 3, 4, 5, 6], [2, 3, 0]), [0] + normal(31, [4 + 18, 12 + 12, 10 + 12]))
        self.assertEqual(polar(11, [1, 2, 3, 4, 5, 6], [1, 0, 0]), [0] + normal(11, [2, 6, 5]))
        self.assertEqual(polar(11, [1, 2, 3, 4, 5, 6], [0, 0, 1]), [0] + normal(11, [5, 4, 6]))
        self.assertEqual(polar(5, [1, 2, 3, 4, 5, 6], [0, 0, 1]), [-3])

    def test_every_conic_and_point_of_3(self):
        for k in all_conics(3):
            for x in forms(3):
                self.assertEqual(polar(3, k, x), [0] + polar_of(3, k, x) if is_proper(3, k) else [-3], (k, x))

    def test_some(self):
        source = stream(91)
        for p in PRIMES:
            for turn in range(40):
                k, x = draw(source, "conic", p), draw(source, "point", p)
                self.assertEqual(polar(p, k, x), [0] + polar_of(p, k, x) if is_proper(p, k) else [-3], (p, k, x))

    def test_a_point_is_on_its_polar_just_when_on_the_conic(self):
        source = stream(92)
        for p in PRIMES:
            k = proper(source, p)
            for x in forms(p):
                self.assertEqual(lies(p, x, polar(p, k, x)[1:]), value(p, k, x) == 0, (p, k, x))

    def test_of_a_point_on_the_conic_it_touches_there(self):
        source = stream(93)
        for p in PRIMES:
            k = proper(source, p)
            for x in forms(p):
                if value(p, k, x) == 0:
                    self.assertEqual(crossed(p, k, polar(p, k, x)[1:]), [0, 1] + x)

    def test_same_in_other_numbers(self):
        for p in PRIMES:
            for k, x in (([1, 1, p - 1, 0, 0, 0], [1, 2, 3]), ([0, 1, 0, 0, p - 1, 0], [0, 1, p - 1])):
                answer = [0] + polar_of(p, k, x)
                for one, other in zip(retold(p, k), reversed(retold(p, x))):
                    self.assertEqual(polar(p, one, x), answer, (p, one, x))
                    self.assertEqual(polar(p, k, other), answer, (p, k, other))
                    self.assertEqual(polar(p, one, other), answer, (p, one, other))

    def test_largest_numbers(self):
        # 4294967295 is 3 modulo 7.
        self.assertEqual(polar(7, [LARGEST, 1, 1, 0, 0, 0], [LARGEST, 1, 0]), [0, 1, 4, 0])


class Pole(unittest.TestCase):
    def test_ordinary(self):
        self.assertEqual(pole(7, [1, 1, 6, 0, 0, 0], [1, 0, 6]), [0, 1, 0, 1])
        self.assertEqual(pole(7, [1, 1, 6, 0, 0, 0], [0, 0, 1]), [0, 0, 0, 1])
        self.assertEqual(pole(3, CIRCLE, [1, 2, 0]), [0, 1, 2, 0])
        self.assertEqual(pole(11, [1, 2, 3, 4, 5, 6], [2, 6, 5]), [0, 1, 0, 0])
        self.assertEqual(pole(11, [1, 2, 3, 4, 5, 6], [5, 4, 6]), [0, 0, 0, 1])

    def test_every_conic_and_line_of_3(self):
        for k in all_conics(3):
            for l in forms(3):
                if is_proper(3, k):
                    self.assertEqual([pole(3, k, l)], [[0] + x for x in forms(3) if polar_of(3, k, x) == l], (k, l))
                else:
                    self.assertEqual(pole(3, k, l), [-3], (k, l))

    def test_its_polar_is_the_line(self):
        source = stream(94)
        for p in PRIMES:
            for turn in range(40):
                k, l = proper(source, p), draw(source, "point", p)
                answer = pole(p, k, l)
                self.assertEqual((answer[0], len(answer)), (0, 4))
                self.assertEqual(answer[1:], normal(p, answer[1:]))
                self.assertEqual(polar_of(p, k, answer[1:]), normal(p, l), (p, k, l))

    def test_polar_and_pole_undo_one_another(self):
        source = stream(95)
        for p in PRIMES:
            k = proper(source, p)
            for x in forms(p):
                self.assertEqual(pole(p, k, polar(p, k, x)[1:]), [0] + x, (p, k, x))
                self.assertEqual(polar(p, k, pole(p, k, x)[1:]), [0] + x, (p, k, x))

    def test_same_in_other_numbers(self):
        source = stream(96)
        for p in PRIMES:
            for k, l in (([1, 1, p - 1, 0, 0, 0], [1, 2, 3]), ([0, 1, 0, 0, p - 1, 0], [0, 1, p - 1])):
                answer = pole(p, k, l)
                self.assertEqual(polar_of(p, k, answer[1:]), normal(p, l))
                for one, other in zip(retold(p, k), reversed(retold(p, l))):
                    self.assertEqual(pole(p, one, l), answer, (p, one, l))
                    self.assertEqual(pole(p, k, other), answer, (p, k, other))
                    self.assertEqual(pole(p, one, other), answer, (p, one, other))
                self.assertEqual(pole(p, other_numbers(source, p, k), other_numbers(source, p, l)), answer)


class Refused(unittest.TestCase):
    def test_rank_is_not_3(self):
        source = stream(97)
        for p in PRIMES:
            for rank_told, count, k in conics_of(p, source):
                x = draw(source, "point", p)
                self.assertEqual(polar(p, k, x)[0], 0 if rank_told == 3 else -3, (p, k, x))
                self.assertEqual(pole(p, k, x)[0], 0 if rank_told == 3 else -3, (p, k, x))
            l, m = draw(source, "point", p), draw(source, "point", p)
            for other in (l, m):
                self.assertEqual(polar(p, two_lines(p, l, other), m), [-3])
                self.assertEqual(pole(p, two_lines(p, l, other), m), [-3])

    def test_rank_is_not_3_only_modulo_p(self):
        for p in PRIMES:
            for k in ([1, 1, p, 0, 0, 0], [p, 1, 1, 0, 0, 0], [1, p, 1, 0, 0, 0], [p, p, 1, p, p, p]):
                for told in retold(p, k):
                    self.assertEqual(polar(p, told, [1, 2, 1]), [-3], (p, told))
                    self.assertEqual(pole(p, told, [1, 2, 1]), [-3], (p, told))

    def test_wrong(self):
        for p in PRIMES:
            for given in wrong_calls(["conic", "point"], (p, CIRCLE, [1, 0, 2])):
                self.assertEqual(polar(*given), [-1], given)
                self.assertEqual(pole(*given), [-1], given)

    def test_wrong_counts_ahead_of_the_rank(self):
        for k in ([1, 0, 0, 0, 0, 0], [1, 1, 0, 0, 0, 0], [0, 0, 0, 0, 0, 1]):
            for given in wrong_calls(["conic", "point"], (7, k, [1, 0, 2])):
                self.assertEqual(polar(*given), [-1], given)
                self.assertEqual(pole(*given), [-1], given)

    def test_conic_and_point_changed_for_one_another(self):
        for p in PRIMES:
            self.assertEqual(polar(p, [1, 0, 2], CIRCLE), [-1])
            self.assertEqual(pole(p, [1, 0, 2], CIRCLE), [-1])


if __name__ == "__main__":
    unittest.main()
