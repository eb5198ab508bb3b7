"""image and carried: where a map takes a point, and a line."""

import unittest

from planebook.desk import behind, carried, image, join
from samples import (LARGEST, MIXED, PRIMES, SHEAR, TURN, UNIT, all_maps, draw, forms, lies, normal, other_numbers,
                     retold, stream, taken, wrong_calls)


def tried(p, m, l):
    """The lines on which the images of all points of l are, found by trying every line."""
    images = [taken(p, m, x) for x in forms(p) if lies(p, x, l)]
    return [line for line in forms(p) if all(lies(p, x, line) for x in images)]


class Image(unittest.TestCase):
    def test_ordinary(self):
        self.assertEqual(image(7, TURN, [1, 2, 3]), [0, 1, 5, 3])
        self.assertEqual(image(7, SHEAR, [1, 1, 0]), [0, 1, 5, 0])
        self.assertEqual(image(3, SHEAR, [1, 1, 1]), [0, 0, 1, 1])
        self.assertEqual(image(31, MIXED, [1, 0, 2]), [0] + normal(31, [7, 8, 5]))
        self.assertEqual(image(11, [0, 0, 1, 0, 1, 0, 1, 0, 0], [0, 0, 5]), [0, 1, 0, 0])

    def test_every_point(self):
        source = stream(41)
        for p in PRIMES:
            m = draw(source, "map", p)
            answers = [image(p, m, x) for x in forms(p)]
            self.assertEqual(answers, [[0] + normal(p, taken(p, m, x)) for x in forms(p)])
            self.assertEqual(sorted(answers), [[0] + x for x in forms(p)])

    def test_every_map_of_3(self):
        for m in all_maps(3):
            for x in ([1, 0, 0], [0, 1, 2], [1, 1, 1]):
                self.assertEqual(image(3, m, x), [0] + normal(3, taken(3, m, x)))

    def test_all_stay(self):
        for p in PRIMES:
            for x in forms(p):
                self.assertEqual(image(p, UNIT, x), [0] + x)
                self.assertEqual(image(p, [(p - 1) * n for n in UNIT], x), [0] + x)

    def test_after_one_another_as_behind(self):
        source = stream(42)
        for p in PRIMES:
            for turn in range(20):
                m, n, x = draw(source, "map", p), draw(source, "map", p), draw(source, "point", p)
                self.assertEqual(image(p, behind(p, m, n)[1:], x), image(p, m, image(p, n, x)[1:]))

    def test_same_in_other_numbers(self):
        for p in PRIMES:
            for m, x in ((TURN, [1, 2, 3]), (SHEAR, [0, 1, p - 1]), (MIXED, [0, 0, 1])):
                answer = image(p, m, x)
                self.assertEqual(answer[0], 0)
                for one, other in zip(retold(p, m), reversed(retold(p, x))):
                    self.assertEqual(image(p, one, x), answer, (p, one, x))
                    self.assertEqual(image(p, m, other), answer, (p, m, other))
                    self.assertEqual(image(p, one, other), answer, (p, one, other))

    def test_wrong(self):
        for p in PRIMES:
            for given in wrong_calls(["map", "point"], (p, MIXED, [1, 0, 2])):
                self.assertEqual(image(*given), [-1], given)

    def test_map_and_point_changed_for_one_another(self):
        for p in PRIMES:
            self.assertEqual(image(p, [1, 0, 2], MIXED), [-1])


class Carried(unittest.TestCase):
    def test_ordinary(self):
        self.assertEqual(carried(7, UNIT, [1, 2, 3]), [0, 1, 2, 3])
        self.assertEqual(carried(7, TURN, [1, 2, 3]), [0, 1, 5, 3])
        # x y z goes to x + 2 y, y, z; so the line x = 0 goes to the line x = 2 y.
        self.assertEqual(carried(7, SHEAR, [1, 0, 0]), [0, 1, 5, 0])
        self.assertEqual(carried(7, SHEAR, [0, 1, 0]), [0, 0, 1, 0])
        self.assertEqual(carried(5, [1, 0, 0, 0, 2, 0, 0, 0, 1], [1, 1, 0]), [0, 1, 3, 0])
        # The inverse of 1 2 3, 0 1 4, 5 6 0 is -24 18 5, 20 -15 -4, -5 4 1.
        self.assertEqual(carried(31, MIXED, [1, 0, 0]), [0] + normal(31, [-24, 18, 5]))
        self.assertEqual(carried(31, MIXED, [0, 1, 2]), [0] + normal(31, [10, -7, -2]))

    def test_not_by_the_map_itself(self):
        for p in PRIMES:
            self.assertNotEqual(carried(p, SHEAR, [1, 0, 0]), image(p, SHEAR, [1, 0, 0]))
            self.assertNotEqual(carried(p, SHEAR, [1, 0, 0]), [0, 1, 2, 0])

    def test_every_line(self):
        source = stream(43)
        for p in (3, 5, 7):
            for turn in range(6):
                m = draw(source, "map", p)
                for l in forms(p):
                    self.assertEqual([carried(p, m, l)], [[0] + line for line in tried(p, m, l)], (p, m, l))

    def test_every_map_of_3(self):
        for m in all_maps(3):
            for l in ([1, 0, 0], [1, 2, 1]):
                self.assertEqual([carried(3, m, l)], [[0] + line for line in tried(3, m, l)], (m, l))

    def test_images_of_the_points_are_on_it(self):
        source = stream(44)
        for p in PRIMES:
            for turn in range(4):
                m, l = draw(source, "map", p), draw(source, "point", p)
                answer = carried(p, m, l)
                self.assertEqual((answer[0], len(answer)), (0, 4))
                self.assertEqual(answer[1:], normal(p, answer[1:]))
                for x in forms(p):
                    self.assertEqual(lies(p, taken(p, m, x), answer[1:]), lies(p, x, l), (p, m, l, x))

    def test_a_join_is_carried_to_the_images_join(self):
        source = stream(45)
        for p in PRIMES:
            for turn in range(20):
                m, x, y = draw(source, "map", p), draw(source, "point", p), draw(source, "point", p)
                line = join(p, x, y)
                if line != [-2]:
                    self.assertEqual(carried(p, m, line[1:]), join(p, image(p, m, x)[1:], image(p, m, y)[1:]))

    def test_same_in_other_numbers(self):
        source = stream(46)
        for p in PRIMES:
            for m, l in ((TURN, [1, 2, 3]), (SHEAR, [1, 0, p - 1]), (MIXED, [0, 0, 1])):
                answer = carried(p, m, l)
                self.assertEqual(answer[0], 0)
                for one, other in zip(retold(p, m), reversed(retold(p, l))):
                    self.assertEqual(carried(p, one, l), answer, (p, one, l))
                    self.assertEqual(carried(p, m, other), answer, (p, m, other))
                    self.assertEqual(carried(p, one, other), answer, (p, one, other))
                self.assertEqual(carried(p, other_numbers(source, p, m), other_numbers(source, p, l)), answer)

    def test_largest_numbers(self):
        # 4294967295 is 3 modulo 7.
        self.assertEqual(carried(7, [LARGEST, 0, 0, 0, 1, 0, 0, 0, 1], [LARGEST, 1, 0]), [0, 1, 1, 0])
        self.assertEqual(image(7, [LARGEST, 0, 0, 0, 1, 0, 0, 0, 1], [LARGEST, 1, 0]), [0, 1, 4, 0])

    def test_wrong(self):
        for p in PRIMES:
            for given in wrong_calls(["map", "point"], (p, MIXED, [1, 0, 2])):
                self.assertEqual(carried(*given), [-1], given)

    def test_map_and_line_changed_for_one_another(self):
        for p in PRIMES:
            self.assertEqual(carried(p, [1, 0, 2], MIXED), [-1])


if __name__ == "__main__":
    unittest.main()
