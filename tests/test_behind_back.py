"""behind and back: one map after another, and what undoes a map."""

import itertools
import unittest

from planebook.desk import back, behind
from samples import (LARGEST, MIXED, PRIMES, SHEAR, TURN, UNIT, all_maps, draw, forms, normal, other_numbers, retold,
                     singular, stream, taken, wrong_calls)


def moves(p, m):
    """Where the map m takes every point."""
    return [normal(p, taken(p, m, x)) for x in forms(p)]


class Behind(unittest.TestCase):
    def test_ordinary(self):
        self.assertEqual(behind(7, TURN, SHEAR), [0, 0, 0, 1, 1, 2, 0, 0, 1, 0])
        self.assertEqual(behind(7, SHEAR, TURN), [0, 1, 0, 4, 4, 0, 0, 0, 4, 0])
        self.assertEqual(behind(3, [1, 1, 0, 0, 1, 0, 0, 0, 1], [1, 1, 0, 0, 1, 0, 0, 0, 1]),
                         [0, 1, 2, 0, 0, 1, 0, 0, 0, 1])
        self.assertEqual(behind(31, [2, 0, 0, 0, 3, 0, 0, 0, 5], [3, 0, 0, 0, 7, 0, 0, 0, 4]),
                         [0] + normal(31, [6, 0, 0, 0, 21, 0, 0, 0, 20]))
        self.assertEqual(behind(11, MIXED, TURN), [0, 1, 3 * 6 % 11, 6, 6, 4 * 6 % 11, 0, 6 * 6 % 11, 0, 5 * 6 % 11])

    def test_the_other_way_round_is_another(self):
        for p in PRIMES:
            self.assertNotEqual(behind(p, TURN, SHEAR), behind(p, SHEAR, TURN))

    def test_does_the_second_then_the_first(self):
        source = stream(31)
        for p in PRIMES:
            for turn in range(4):
                m, n = draw(source, "map", p), draw(source, "map", p)
                for first, second in ((m, n), (n, m)):
                    answer = behind(p, first, second)
                    self.assertEqual((answer[0], len(answer)), (0, 10))
                    self.assertEqual(answer[1:], normal(p, answer[1:]))
                    expected = [normal(p, taken(p, first, taken(p, second, x))) for x in forms(p)]
                    self.assertEqual(moves(p, answer[1:]), expected, (p, first, second))

    def test_beside_the_map_that_leaves_all(self):
        source = stream(32)
        for p in PRIMES:
            for turn in range(20):
                m = draw(source, "map", p)
                self.assertEqual(behind(p, m, UNIT), [0] + normal(p, m))
                self.assertEqual(behind(p, UNIT, m), [0] + normal(p, m))

    def test_every_map_of_3_behind_some(self):
        for m in all_maps(3):
            for n in (TURN, SHEAR):
                answer = behind(3, m, n)[1:]
                for x in ([1, 0, 0], [0, 1, 0], [0, 0, 1], [1, 1, 1]):
                    self.assertEqual(normal(3, taken(3, answer, x)), normal(3, taken(3, m, taken(3, n, x))))

    def test_same_in_other_numbers(self):
        for p in PRIMES:
            for m, n in ((TURN, SHEAR), (SHEAR, MIXED), (MIXED, TURN)):
                answer = behind(p, m, n)
                self.assertEqual(answer[0], 0)
                for first, second in zip(retold(p, m), reversed(retold(p, n))):
                    self.assertEqual(behind(p, first, n), answer, (p, first, n))
                    self.assertEqual(behind(p, m, second), answer, (p, m, second))
                    self.assertEqual(behind(p, first, second), answer, (p, first, second))

    def test_wrong(self):
        for p in PRIMES:
            for given in wrong_calls(["map", "map"], (p, MIXED, TURN)):
                self.assertEqual(behind(*given), [-1], given)
            for m, n in itertools.product(singular(p), repeat=2):
                self.assertEqual(behind(p, m, n), [-1])


class Back(unittest.TestCase):
    def test_ordinary(self):
        self.assertEqual(back(7, UNIT), [0] + UNIT)
        self.assertEqual(back(7, TURN), [0, 0, 1, 0, 0, 0, 1, 1, 0, 0])
        self.assertEqual(back(7, SHEAR), [0, 1, 5, 0, 0, 1, 0, 0, 0, 1])
        # The inverse of 1 2 3, 0 1 4, 5 6 0 is -24 18 5, 20 -15 -4, -5 4 1.
        self.assertEqual(back(31, MIXED), [0] + normal(31, [-24, 18, 5, 20, -15, -4, -5, 4, 1]))
        self.assertEqual(back(3, MIXED), [0] + normal(3, [-24, 18, 5, 20, -15, -4, -5, 4, 1]))
        self.assertEqual(back(5, [1, 0, 0, 0, 2, 0, 0, 0, 4]), [0, 1, 0, 0, 0, 3, 0, 0, 0, 4])

    def test_behind_its_map_it_leaves_all(self):
        source = stream(33)
        for p in PRIMES:
            for turn in range(40):
                m = draw(source, "map", p)
                answer = back(p, m)
                self.assertEqual((answer[0], len(answer)), (0, 10))
                self.assertEqual(answer[1:], normal(p, answer[1:]))
                self.assertEqual(behind(p, answer[1:], m), [0] + UNIT)
                self.assertEqual(behind(p, m, answer[1:]), [0] + UNIT)
                self.assertEqual(back(p, answer[1:]), [0] + normal(p, m))

    def test_takes_every_image_to_its_point(self):
        source = stream(34)
        for p in PRIMES:
            m = draw(source, "map", p)
            answer = back(p, m)[1:]
            for x in forms(p):
                self.assertEqual(normal(p, taken(p, answer, taken(p, m, x))), x, (p, m))

    def test_every_map_of_3(self):
        for m in all_maps(3):
            answer = back(3, m)[1:]
            self.assertEqual(answer, normal(3, answer))
            for x in ([1, 0, 0], [0, 1, 0], [0, 0, 1], [1, 1, 1]):
                self.assertEqual(normal(3, taken(3, answer, taken(3, m, x))), x)

    def test_of_two_it_is_the_backs_the_other_way_round(self):
        source = stream(35)
        for p in PRIMES:
            m, n = draw(source, "map", p), draw(source, "map", p)
            self.assertEqual(back(p, behind(p, m, n)[1:]), behind(p, back(p, n)[1:], back(p, m)[1:]))

    def test_same_in_other_numbers(self):
        source = stream(36)
        for p in PRIMES:
            for m in (UNIT, TURN, SHEAR, MIXED):
                answer = back(p, m)
                self.assertEqual(answer[0], 0)
                for told in retold(p, m):
                    self.assertEqual(back(p, told), answer, (p, told))
                self.assertEqual(back(p, other_numbers(source, p, m)), answer)

    def test_largest_numbers(self):
        # 4294967295 is 3 modulo 7.
        self.assertEqual(back(7, [LARGEST, 0, 0, 0, 1, 0, 0, 0, 1]), [0, 1, 0, 0, 0, 3, 0, 0, 0, 3])
        self.assertEqual(back(7, [LARGEST] * 9), [-1])

    def test_wrong(self):
        for p in PRIMES:
            for given in wrong_calls(["map"], (p, MIXED)):
                self.assertEqual(back(*given), [-1], given)


if __name__ == "__main__":
    unittest.main()
