"""order: how many times a map is done until all points are where they were."""

import math
import unittest

from kinds_of_map import kinds
from planebook.desk import back, behind, order
from samples import (LARGEST, PRIMES, UNIT, all_maps, changed, draw, forms, normal, other_numbers, retold, stream,
                     taken, wrong_calls)


def tried(p, m):
    """The order by the points' rounds: each round's length divides it."""
    where = {tuple(x): tuple(normal(p, taken(p, m, x))) for x in forms(p)}
    answer, seen = 1, set()
    for start in where:
        length, place = 0, start
        while place not in seen:
            seen.add(place)
            place = where[place]
            length += 1
        answer = math.lcm(answer, max(length, 1))
    return [0, answer]


class Order(unittest.TestCase):
    def test_example(self):
        self.assertEqual(order(7, [1, 0, 0, 0, 2, 0, 0, 0, 4]), [0, 3])

    def test_ordinary(self):
        self.assertEqual(order(7, UNIT), [0, 1])
        self.assertEqual(order(7, [0, 0, 1, 1, 0, 0, 0, 1, 0]), [0, 3])
        self.assertEqual(order(5, [0, 1, 0, 1, 0, 0, 0, 0, 1]), [0, 2])
        self.assertEqual(order(5, [1, 0, 0, 0, 2, 0, 0, 0, 4]), [0, 4])
        self.assertEqual(order(31, [1, 0, 0, 0, 2, 0, 0, 0, 4]), [0, 5])
        self.assertEqual(order(31, [1, 1, 0, 0, 1, 0, 0, 0, 1]), [0, 31])
        self.assertEqual(order(17, [0, 4, 0, 1, 0, 0, 0, 0, 2]), [0, 2])

    def test_each_kind(self):
        for p in PRIMES:
            for name, (m, answer, stay) in kinds(p).items():
                self.assertEqual(order(p, m), [0, answer], (p, name))
                self.assertEqual(tried(p, m), [0, answer], (p, name))

    def test_each_kind_seen_from_elsewhere(self):
        source = stream(51)
        for p in PRIMES:
            for name, (m, answer, stay) in kinds(p).items():
                other = changed(p, draw(source, "map", p), m)
                self.assertEqual(order(p, other_numbers(source, p, other)), [0, answer], (p, name))

    def test_every_map_of_3(self):
        found = set()
        for m in all_maps(3):
            answer = order(3, m)
            self.assertEqual(answer, tried(3, m), m)
            found.add(answer[1])
        self.assertEqual(found, {1, 2, 3, 4, 6, 8, 13})

    def test_some_maps(self):
        source = stream(52)
        for p in PRIMES:
            for turn in range(10):
                m = draw(source, "map", p)
                self.assertEqual(order(p, m), tried(p, m), (p, m))

    def test_multiples_of_the_unit(self):
        for p in PRIMES:
            for told in retold(p, UNIT):
                self.assertEqual(order(p, told), [0, 1], (p, told))

    def test_of_the_back_and_of_powers(self):
        source = stream(53)
        for p in PRIMES:
            m = draw(source, "map", p)
            answer = order(p, m)[1]
            self.assertEqual(order(p, back(p, m)[1:]), [0, answer])
            self.assertEqual(order(p, behind(p, m, m)[1:]), [0, answer // math.gcd(answer, 2)])

    def test_same_in_other_numbers(self):
        for p in PRIMES:
            for m in ([1, 1, 0, 0, 1, 1, 0, 0, 1], [0, 0, 1, 1, 0, 0, 0, 2, 0], [1, 0, 0, 0, p - 1, 0, 0, 0, 1]):
                answer = order(p, m)
                self.assertEqual(answer, tried(p, m))
                for told in retold(p, m):
                    self.assertEqual(order(p, told), answer, (p, told))

    def test_largest_numbers(self):
        # 4294967295 is 3 modulo 7, and 3 has six powers there.
        self.assertEqual(order(7, [LARGEST, 0, 0, 0, 1, 0, 0, 0, 1]), [0, 6])
        self.assertEqual(order(7, [LARGEST, 0, 0, 0, LARGEST, 0, 0, 0, LARGEST]), [0, 1])

    def test_wrong(self):
        for p in PRIMES:
            for given in wrong_calls(["map"], (p, [1, 2, 3, 0, 1, 4, 5, 6, 0])):
                self.assertEqual(order(*given), [-1], given)


if __name__ == "__main__":
    unittest.main()
