"""conic and rank: the conic of five points, and the rank of a conic."""

import itertools
import unittest

from planebook.desk import conic, rank
from samples import (LARGEST, PRIMES, all_conics, draw, forms, leibniz, lies, no_square, normal, other_numbers, retold,
                     squares, stream, two_lines, value, wrong_calls)


def is_one(p, five):
    """Whether five points are on one conic alone: no two are the same, no four on one line."""
    same = any(normal(p, x) == normal(p, y) for x, y in itertools.combinations(five, 2))
    return not same and not any(leibniz(a + b + c) % p == 0 and leibniz(a + b + d) % p == 0
                                for a, b, c, d in itertools.combinations(five, 4))


def masks(p):
    """For every conic the points on it, as the ones of a number, and the conic."""
    return [(sum(2 ** i for i, x in enumerate(forms(p)) if value(p, k, x) == 0), k) for k in all_conics(p)]


def curve(p, t):
    """A point of the conic y y = x z."""
    return [1, t, t * t % p] if t < p else [0, 0, 1]


class Conic(unittest.TestCase):
    def test_ordinary(self):
        self.assertEqual(conic(7, *[curve(7, t) for t in range(5)]), [0, 0, 1, 0, 0, 6, 0])
        # x x + y y = z z.
        five = [[1, 0, 1], [0, 1, 1], [6, 0, 1], [0, 6, 1], [2, 2, 1]]
        self.assertEqual(conic(7, *five), [0, 1, 1, 6, 0, 0, 0])
        # Three on y = 0, three on z = 0, one of them on both.
        self.assertEqual(conic(5, [1, 0, 0], [0, 0, 1], [1, 0, 1], [0, 1, 0], [1, 1, 0]), [0, 0, 0, 0, 1, 0, 0])
        # d + e + f is 0 and 6 d + 3 e + 2 f too: 1, -4, 3.
        self.assertEqual(conic(31, [1, 0, 0], [0, 1, 0], [0, 0, 1], [1, 1, 1], [1, 2, 3]), [0, 0, 0, 0, 1, 27, 3])

    def test_every_five_of_3(self):
        all_masks, points = masks(3), forms(3)
        for places in itertools.combinations(range(13), 5):
            mask = sum(2 ** i for i in places)
            found = [k for on, k in all_masks if on & mask == mask]
            expected = [0] + found[0] if len(found) == 1 else [-2]
            five = [points[i] for i in places]
            self.assertEqual(conic(3, *five), expected, five)
            self.assertEqual(is_one(3, five), len(found) == 1)

    def test_some_fives_of_5(self):
        all_masks, points, source = masks(5), forms(5), stream(71)
        for turn in range(200):
            places = [next(source) % 31 for place in range(5)]
            mask = sum(2 ** i for i in set(places))
            found = [k for on, k in all_masks if on & mask == mask]
            expected = [0] + found[0] if len(found) == 1 else [-2]
            self.assertEqual(conic(5, *[points[i] for i in places]), expected, places)

    def test_some_fives(self):
        source = stream(72)
        for p in PRIMES:
            for turn in range(40):
                five = [draw(source, "point", p) for place in range(5)]
                answer = conic(p, *five)
                if not is_one(p, five):
                    self.assertEqual(answer, [-2], (p, five))
                    continue
                self.assertEqual((answer[0], len(answer)), (0, 7))
                self.assertEqual(answer[1:], normal(p, answer[1:]))
                self.assertEqual([value(p, answer[1:], x) for x in five], [0] * 5, (p, five))

    def test_finds_the_conic_that_the_points_are_from(self):
        source = stream(73)
        for p in PRIMES[1:]:
            for turn in range(6):
                k = draw(source, "conic", p)
                points = [x for x in forms(p) if value(p, k, x) == 0]
                five = [other_numbers(source, p, points[next(source) % len(points)]) for place in range(5)]
                self.assertEqual(conic(p, *five), [0] + normal(p, k) if is_one(p, five) else [-2], (p, k, five))

    def test_points_in_any_order(self):
        five = [[1, 0, 1], [0, 1, 1], [6, 0, 1], [0, 6, 1], [2, 2, 1]]
        for order in itertools.permutations(five):
            self.assertEqual(conic(7, *order), [0, 1, 1, 6, 0, 0, 0])

    def test_three_on_one_line_is_one_conic(self):
        source = stream(74)
        for p in PRIMES:
            l, m = [1, 2, 0], [0, 1, 1]
            first = [x for x in forms(p) if lies(p, x, l) and not lies(p, x, m)]
            second = [x for x in forms(p) if lies(p, x, m) and not lies(p, x, l)]
            answer = [0] + normal(p, two_lines(p, l, m))
            for places in itertools.permutations(range(5)):
                five = first[:3] + second[-2:]
                given = [other_numbers(source, p, five[place]) for place in places]
                self.assertEqual(conic(p, *given), answer, (p, given))
            meeting = [x for x in forms(p) if lies(p, x, l) and lies(p, x, m)]
            self.assertEqual(conic(p, *first[:2], *meeting, *second[:2]), answer)

    def test_four_on_one_line(self):
        source = stream(75)
        for p in PRIMES:
            for l in ([0, 0, 1], [1, 0, 0], [1, 2, p - 1]):
                line = [x for x in forms(p) if lies(p, x, l)]
                away = [x for x in forms(p) if not lies(p, x, l)]
                for place in range(5):
                    four = [other_numbers(source, p, x) for x in line[-4:]]
                    four.insert(place, away[next(source) % len(away)])
                    self.assertEqual(conic(p, *four), [-2], (p, four))
                if p > 3:
                    self.assertEqual(conic(p, *line[:5]), [-2])

    def test_two_the_same(self):
        source = stream(76)
        for p in PRIMES:
            for kept, changed in itertools.permutations(range(5), 2):
                five = [draw(source, "point", p) for place in range(5)]
                five[changed] = other_numbers(source, p, five[kept])
                self.assertEqual(conic(p, *five), [-2], (p, five))
            x = draw(source, "point", p)
            self.assertEqual(conic(p, x, x, x, x, x), [-2])

    def test_same_in_other_numbers(self):
        for p in PRIMES:
            five = [[1, 0, 1], [0, 1, 1], [p - 1, 0, 1], [0, p - 1, 1], [1, 1, 1]]
            answer = conic(p, *five)
            self.assertEqual(answer[0], 0)
            for place in range(5):
                for told in retold(p, five[place]):
                    given = five[:place] + [told] + five[place + 1:]
                    self.assertEqual(conic(p, *given), answer, (p, given))

    def test_wrong(self):
        for p in PRIMES:
            five = ([1, 0, 1], [0, 1, 1], [p - 1, 0, 1], [0, p - 1, 1], [1, 1, 1])
            for given in wrong_calls(["point"] * 5, (p, *five)):
                self.assertEqual(conic(*given), [-1], given)

    def test_wrong_counts_ahead_of_more_than_one(self):
        five = ([1, 0, 0], [0, 1, 0], [1, 1, 0], [1, 2, 0], [0, 0, 1])
        for given in wrong_calls(["point"] * 5, (7, *five)):
            self.assertEqual(conic(*given), [-1], given)


class Rank(unittest.TestCase):
    def test_example(self):
        self.assertEqual(rank(7, [1, 1, 6, 0, 0, 0]), [0, 3])

    def test_ordinary(self):
        for p in PRIMES:
            self.assertEqual(rank(p, [1, 0, 0, 0, 0, 0]), [0, 1])
            self.assertEqual(rank(p, [0, 0, 1, 0, 0, 0]), [0, 1])
            self.assertEqual(rank(p, [1, 1, 0, 0, 0, 2]), [0, 1])
            self.assertEqual(rank(p, [1, 1, 1, 2, 2, 2]), [0, 1])
            self.assertEqual(rank(p, [0, 0, 0, 0, 0, 1]), [0, 2])
            self.assertEqual(rank(p, [0, 0, 0, 1, 0, 0]), [0, 2])
            self.assertEqual(rank(p, [0, 0, 0, 0, 1, 0]), [0, 2])
            self.assertEqual(rank(p, [1, 0, 1, 0, 0, 0]), [0, 2])
            self.assertEqual(rank(p, [1, 1, 1, 0, 0, 0]), [0, 3])
            self.assertEqual(rank(p, [0, 1, 0, 0, p - 1, 0]), [0, 3])
            self.assertEqual(rank(p, [0, 0, 0, 1, 1, 1]), [0, 3])
        # The determinant of 2 1 1, 1 2 1, 1 1 2 is 4, that of 2 1 1, 1 2 1, 1 1 4 is 10.
        self.assertEqual(rank(5, [1, 1, 1, 1, 1, 1]), [0, 3])
        self.assertEqual(rank(5, [1, 1, 2, 1, 1, 1]), [0, 2])
        self.assertEqual(rank(7, [1, 1, 2, 1, 1, 1]), [0, 3])

    def test_every_conic(self):
        # The sums of multiples of the rows are p to the rank.
        for p in (3, 5):
            for a, b, c, d, e, f in all_conics(p):
                rows = ((2 * a, f, e), (f, 2 * b, d), (e, d, 2 * c))
                sums = {(s * rows[0][0] + t * rows[1][0] + u * rows[2][0]) % p * p * p
                        + (s * rows[0][1] + t * rows[1][1] + u * rows[2][1]) % p * p
                        + (s * rows[0][2] + t * rows[1][2] + u * rows[2][2]) % p
                        for s in range(p) for t in range(p) for u in range(p)}
                self.assertEqual(p ** rank(p, [a, b, c, d, e, f])[1], len(sums), (p, a, b, c, d, e, f))

    def test_sums_of_squares(self):
        source = stream(77)
        for p in PRIMES:
            for scales, answer in (((1, 0, 0), 1), ((0, no_square(p), 0), 1), ((1, 0, p - 1), 2), ((0, 1, 1), 2),
                                   ((1, p - no_square(p), 0), 2), ((1, 1, 1), 3), ((1, 1, no_square(p)), 3)):
                for turn in range(6):
                    k = squares(p, draw(source, "map", p), scales)
                    self.assertEqual(rank(p, other_numbers(source, p, k)), [0, answer], (p, k))

    def test_two_lines(self):
        source = stream(78)
        for p in PRIMES:
            for turn in range(20):
                l, m = draw(source, "point", p), draw(source, "point", p)
                self.assertEqual(rank(p, two_lines(p, l, m)), [0, 1 if normal(p, l) == normal(p, m) else 2])
                self.assertEqual(rank(p, two_lines(p, l, other_numbers(source, p, l))), [0, 1])

    def test_same_in_other_numbers(self):
        for p in PRIMES:
            for k, answer in (([1, 1, 0, 0, 0, 2], 1), ([0, 1, 0, 1, 0, 0], 2), ([1, 1, p - 1, 0, 0, 0], 3)):
                for told in retold(p, k):
                    self.assertEqual(rank(p, told), [0, answer], (p, told))

    def test_largest_numbers(self):
        # 4294967295 is 0 modulo 3 and 5, 3 modulo 7 and 31.
        self.assertEqual(rank(7, [LARGEST, LARGEST, LARGEST, 0, 0, 0]), [0, 3])
        self.assertEqual(rank(31, [LARGEST] * 6), [0, 3])
        self.assertEqual(rank(3, [1, LARGEST, LARGEST, LARGEST, LARGEST, LARGEST]), [0, 1])
        self.assertEqual(rank(5, [LARGEST] * 6), [-1])

    def test_wrong(self):
        for p in PRIMES:
            for given in wrong_calls(["conic"], (p, [1, 1, 1, 0, 0, 0])):
                self.assertEqual(rank(*given), [-1], given)


if __name__ == "__main__":
    unittest.main()
