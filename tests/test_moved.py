"""moved: the conic that a map takes a conic to."""

import unittest

from planebook.desk import back, behind, moved, points, rank
from samples import (CIRCLE, LARGEST, MIXED, PRIMES, SHEAR, TURN, UNIT, all_conics, all_maps, conics_of, draw, forms,
                     normal, other_numbers, retold, stream, taken, two_lines, undoing, value, wrong_calls)


def put_in(p, m, k):
    """The conic by the words: the sum of the products of what is put in for x, y, z."""
    rows = undoing(p, m)
    x, y, z = rows[0:3], rows[3:6], rows[6:9]
    terms = zip(k, (two_lines(p, x, x), two_lines(p, y, y), two_lines(p, z, z), two_lines(p, y, z),
                    two_lines(p, x, z), two_lines(p, x, y)))
    return normal(p, [sum(column) for column in zip(*[[scale * n for n in six] for scale, six in terms])])


class Moved(unittest.TestCase):
    def test_ordinary(self):
        for p in PRIMES:
            # x y z goes to x + 2 y, y, z: back it is x - 2 y, y, z.
            self.assertEqual(moved(p, SHEAR, [1, 0, 0, 0, 0, 0]), [0, 1, 4 % p, 0, 0, 0, -4 % p])
            self.assertEqual(moved(p, SHEAR, [0, 0, 0, 0, 0, 1]), [0] + normal(p, [0, -2, 0, 0, 0, 1]))
            self.assertEqual(moved(p, SHEAR, [0, 0, 0, 0, 1, 0]), [0] + normal(p, [0, 0, 0, -2, 1, 0]))
            # x y z goes to z x y: back it is y, z, x.
            self.assertEqual(moved(p, TURN, [1, 0, 0, 0, 0, 0]), [0, 0, 1, 0, 0, 0, 0])
            self.assertEqual(moved(p, TURN, [0, 1, 0, 0, 0, 2]), [0] + normal(p, [0, 0, 1, 2, 0, 0]))
            self.assertEqual(moved(p, TURN, [0, 0, 1, 2, 0, 0]), [0, 1, 0, 0, 0, 2, 0])
        self.assertEqual(moved(7, [1, 0, 0, 0, 1, 0, 0, 0, 2], [1, 1, 6, 0, 0, 0]), [0, 1, 1, 5, 0, 0, 0])

    def test_not_by_the_map_itself(self):
        for p in PRIMES:
            self.assertNotEqual(moved(p, SHEAR, [1, 0, 0, 0, 0, 0]), moved(p, back(p, SHEAR)[1:], [1, 0, 0, 0, 0, 0]))

    def test_by_the_words(self):
        source = stream(121)
        for p in PRIMES:
            for rank_told, count, k in conics_of(p, source):
                m = draw(source, "map", p)
                answer = moved(p, m, k)
                self.assertEqual(answer, [0] + put_in(p, m, k), (p, m, k))
                self.assertEqual(rank(p, answer[1:]), [0, rank_told])
                self.assertEqual(points(p, answer[1:]), [0, count])

    def test_each_number_of_the_conic(self):
        source = stream(122)
        for p in PRIMES:
            m = draw(source, "map", p)
            for place in range(6):
                k = [1 if i == place else 0 for i in range(6)]
                self.assertEqual(moved(p, m, k), [0] + put_in(p, m, k), (p, m, k))

    def test_points_are_the_images_of_the_points(self):
        source = stream(123)
        for p in PRIMES:
            for rank_told, count, k in conics_of(p, source):
                m = draw(source, "map", p)
                answer = moved(p, m, k)[1:]
                images = sorted(normal(p, taken(p, m, x)) for x in forms(p) if value(p, k, x) == 0)
                self.assertEqual([x for x in forms(p) if value(p, answer, x) == 0], images, (p, m, k))

    def test_every_map_of_3(self):
        for m in list(all_maps(3))[::3]:
            for k in ([1, 1, 1, 0, 0, 0], [0, 1, 0, 2, 1, 0]):
                self.assertEqual(moved(3, m, k), [0] + put_in(3, m, k), (m, k))

    def test_every_conic_of_3(self):
        for k in all_conics(3):
            for m in (TURN, SHEAR, MIXED):
                self.assertEqual(moved(3, m, k), [0] + put_in(3, m, k), (m, k))

    def test_where_all_points_stay(self):
        source = stream(124)
        for p in PRIMES:
            for rank_told, count, k in conics_of(p, source):
                self.assertEqual(moved(p, other_numbers(source, p, UNIT), k), [0] + normal(p, k))

    def test_one_map_behind_another(self):
        source = stream(125)
        for p in PRIMES:
            for turn in range(20):
                m, n, k = draw(source, "map", p), draw(source, "map", p), draw(source, "conic", p)
                self.assertEqual(moved(p, behind(p, m, n)[1:], k), moved(p, m, moved(p, n, k)[1:]))
                self.assertEqual(moved(p, back(p, m)[1:], moved(p, m, k)[1:]), [0] + normal(p, k))

    def test_same_in_other_numbers(self):
        for p in PRIMES:
            for m, k in ((TURN, [1, 2, p - 1, 0, 0, 1]), (SHEAR, [0, 0, 1, 1, 0, 0]), (MIXED, [1, 0, 0, 0, 0, 0])):
                answer = moved(p, m, k)
                self.assertEqual(answer, [0] + put_in(p, m, k))
                for one, other in zip(retold(p, m), reversed(retold(p, k))):
                    self.assertEqual(moved(p, one, k), answer, (p, one, k))
                    self.assertEqual(moved(p, m, other), answer, (p, m, other))
                    self.assertEqual(moved(p, one, other), answer, (p, one, other))

    def test_largest_numbers(self):
        # 4294967295 is 3 modulo 7, and 5 by 3 is 1 there.
        self.assertEqual(moved(7, [LARGEST, 0, 0, 0, 1, 0, 0, 0, 1], [1, LARGEST, 0, 0, 0, 0]),
                         [0] + normal(7, [25, 3, 0, 0, 0, 0]))

    def test_wrong(self):
        for p in PRIMES:
            for given in wrong_calls(["map", "conic"], (p, MIXED, CIRCLE)):
                self.assertEqual(moved(*given), [-1], given)

    def test_map_and_conic_changed_for_one_another(self):
        for p in PRIMES:
            self.assertEqual(moved(p, CIRCLE, MIXED), [-1])


if __name__ == "__main__":
    unittest.main()
