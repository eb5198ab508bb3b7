"""cross and fourth: the number of four points on one line, and the fourth of them."""

import itertools
import unittest

from planebook.desk import cross, fourth
from samples import (LARGEST, PRIMES, aligned, draw, forms, highest, lies, normal, other_numbers, retold, stream,
                     wrong_calls)


def sum_of(p, s, a, t, b):
    return [(s * x + t * y) % p for x, y in zip(a, b)]


def tried(p, a, b, c, d):
    """What cross is to answer for forms, by the words: trying every s, t and r."""
    if a == b or b == c or a == c or not aligned(p, a, b, c, d):
        return [-2]
    if d == a:
        return [0, p]
    found = set()
    for s, t in itertools.product(range(1, p), repeat=2):
        if normal(p, sum_of(p, s, a, t, b)) == c:
            found |= {r for r in range(p) if normal(p, sum_of(p, r * s, a, t, b)) == d}
    assert len(found) == 1
    return [0, found.pop()]


def on_line(p, line):
    return [x for x in forms(p) if lies(p, x, line)]


def fours(seed, turns):
    """Fours on one line of every p, told in large numbers, with what cross is to answer."""
    source = stream(seed)
    for p in PRIMES:
        for turn in range(turns):
            a, b = draw(source, "point", p), draw(source, "point", p)
            if normal(p, a) == normal(p, b):
                continue
            s, t, r = 1 + next(source) % (p - 1), 1 + next(source) % (p - 1), next(source) % (p + 1)
            c = other_numbers(source, p, sum_of(p, s, a, t, b))
            d = other_numbers(source, p, a if r == p else sum_of(p, r * s, a, t, b))
            yield p, r, a, b, c, d


class Cross(unittest.TestCase):
    def test_example(self):
        self.assertEqual(cross(7, [1, 0, 0], [0, 1, 0], [1, 1, 0], [1, 3, 0]), [0, 5])

    def test_ordinary(self):
        self.assertEqual(cross(3, [1, 0, 0], [0, 1, 0], [1, 1, 0], [1, 2, 0]), [0, 2])
        self.assertEqual(cross(7, [0, 1, 0], [1, 0, 0], [1, 1, 0], [1, 3, 0]), [0, 3])
        self.assertEqual(cross(7, [1, 0, 0], [1, 1, 0], [0, 1, 0], [1, 3, 0]), [0, 3])
        self.assertEqual(cross(11, [0, 0, 1], [0, 1, 0], [0, 1, 2], [0, 1, 6]), [0, 3])
        self.assertEqual(cross(31, [1, 0, 5], [0, 1, 5], [1, 1, 10], [3, 1, 20]), [0, 3])

    def test_every_four_of_3(self):
        points = forms(3)
        for a, b, c in itertools.product(points, repeat=3):
            lined = aligned(3, a, b, c)
            for d in points:
                expected = tried(3, a, b, c, d) if lined else [-2]
                self.assertEqual(cross(3, a, b, c, d), expected, (a, b, c, d))

    def test_every_four_of_some_lines(self):
        for p, lines in ((5, ([0, 0, 1], [1, 2, 3])), (7, ([1, 0, 0],))):
            for line in lines:
                for four in itertools.product(on_line(p, line), repeat=4):
                    self.assertEqual(cross(p, *four), tried(p, *four), (p, four))

    def test_fours_made_by_the_words(self):
        for p, r, a, b, c, d in fours(11, 60):
            self.assertEqual(cross(p, a, b, c, d), [0, r], (p, a, b, c, d))

    def test_edges(self):
        for p in PRIMES:
            a, b, c = [1, 2, 0], [0, 1, 1], [1, 3, 1]
            for told in retold(p, a):
                self.assertEqual(cross(p, a, b, c, told), [0, p], (p, told))
            for told in retold(p, b):
                self.assertEqual(cross(p, a, b, c, told), [0, 0], (p, told))
            for told in retold(p, c):
                self.assertEqual(cross(p, a, b, c, told), [0, 1], (p, told))

    def test_same_in_other_numbers(self):
        for p in PRIMES:
            four = [[1, 0, 2], [0, 1, 1], [1, 1, 3], [1, p - 1, 1]]
            self.assertEqual(cross(p, *four), [0, p - 1])
            for place in range(4):
                for told in retold(p, four[place]):
                    given = four[:place] + [told] + four[place + 1:]
                    self.assertEqual(cross(p, *given), [0, p - 1], (p, given))

    def test_two_of_the_first_three_the_same(self):
        for p in PRIMES:
            three = [[1, 0, 2], [0, 1, 1], [1, 1, 3]]
            for kept, changed in itertools.permutations(range(3), 2):
                for told in retold(p, three[kept]):
                    given = list(three)
                    given[changed] = told
                    for d in three + [[1, p - 1, 1], [1, 0, 0]]:
                        self.assertEqual(cross(p, *given, d), [-2], (p, given, d))
            self.assertEqual(cross(p, three[0], three[0], three[0], three[0]), [-2])

    def test_not_on_one_line(self):
        for p in PRIMES:
            four = [[1, 0, 2], [0, 1, 1], [1, 1, 3], [1, 2, 4]]
            for place in range(4):
                for away in ([0, 0, 1], [1, 0, 0], [1, 1, 1], [p - 1, 1, 3]):
                    given = four[:place] + [away] + four[place + 1:]
                    self.assertEqual(cross(p, *given), tried(p, *[normal(p, x) for x in given]), (p, given))
                    self.assertEqual(cross(p, *given), [-2], (p, given))
            self.assertEqual(cross(p, [1, 0, 0], [0, 1, 0], [0, 0, 1], [1, 1, 1]), [-2])

    def test_wrong(self):
        for p in PRIMES:
            for given in wrong_calls(["point"] * 4, (p, [1, 0, 2], [0, 1, 1], [1, 1, 3], [2, 1, 5])):
                self.assertEqual(cross(*given), [-1], given)

    def test_wrong_counts_ahead_of_not_so(self):
        for given in wrong_calls(["point"] * 4, (7, [1, 0, 0], [0, 1, 0], [0, 0, 1], [1, 1, 1])):
            self.assertEqual(cross(*given), [-1], given)
        for given in wrong_calls(["point"] * 4, (5, [1, 0, 0], [2, 0, 0], [3, 0, 0], [1, 1, 1])):
            self.assertEqual(cross(*given), [-1], given)


class Fourth(unittest.TestCase):
    def test_ordinary(self):
        self.assertEqual(fourth(7, 5, [1, 0, 0], [0, 1, 0], [1, 1, 0]), [0, 1, 3, 0])
        self.assertEqual(fourth(3, 2, [1, 0, 0], [0, 1, 0], [1, 1, 0]), [0, 1, 2, 0])
        self.assertEqual(fourth(11, 3, [0, 0, 1], [0, 1, 0], [0, 1, 2]), [0, 0, 1, 6])
        self.assertEqual(fourth(31, 3, [1, 0, 5], [0, 1, 5], [1, 1, 10]), [0] + normal(31, [3, 1, 20]))

    def test_every_three_and_r_of_3(self):
        points = forms(3)
        for a, b, c in itertools.product(points, repeat=3):
            for r in range(4):
                expected = [[0] + d for d in points if tried(3, a, b, c, d) == [0, r]] if aligned(3, a, b, c) else []
                self.assertEqual(fourth(3, r, a, b, c), (expected + [[-2]])[0], (r, a, b, c))

    def test_every_three_and_r_of_a_line(self):
        line = on_line(5, [1, 2, 3])
        for a, b, c in itertools.permutations(line, 3):
            self.assertEqual(sorted(fourth(5, r, a, b, c)[1:] for r in range(6)), line)
            for r in range(6):
                self.assertEqual(tried(5, a, b, c, fourth(5, r, a, b, c)[1:]), [0, r])

    def test_fours_made_by_the_words(self):
        for p, r, a, b, c, d in fours(12, 60):
            self.assertEqual(fourth(p, r, a, b, c), [0] + normal(p, d), (p, r, a, b, c))

    def test_undoes_cross(self):
        for p in PRIMES:
            a, b, c = [1, 2, 0], [0, 1, 1], [1, 3, 1]
            for r in range(p + 1):
                d = fourth(p, r, a, b, c)
                self.assertEqual(d[0], 0)
                self.assertEqual(cross(p, a, b, c, d[1:]), [0, r], (p, r))

    def test_edges_of_r(self):
        for p in PRIMES:
            a, b, c = [2, 4, 0], [0, 2, 2], [p + 1, 3, 1]
            self.assertEqual(fourth(p, p, a, b, c), [0, 1, 2, 0])
            self.assertEqual(fourth(p, 0, a, b, c), [0, 0, 1, 1])
            self.assertEqual(fourth(p, 1, a, b, c), [0] + normal(p, c))
            for r in (p + 1, p + 2, 2 * p, 2 * p + 1, p * p, highest(p, 0), highest(p, 1), LARGEST):
                self.assertEqual(fourth(p, r, a, b, c), [-2], (p, r))

    def test_same_in_other_numbers(self):
        for p in PRIMES:
            three = [[1, 0, 2], [0, 1, 1], [1, 1, 3]]
            for r in (0, 1, 2, p - 1, p):
                answer = fourth(p, r, *three)
                self.assertEqual(answer[0], 0)
                for place in range(3):
                    for told in retold(p, three[place]):
                        given = three[:place] + [told] + three[place + 1:]
                        self.assertEqual(fourth(p, r, *given), answer, (p, r, given))

    def test_two_the_same(self):
        for p in PRIMES:
            three = [[1, 0, 2], [0, 1, 1], [1, 1, 3]]
            for kept, changed in itertools.permutations(range(3), 2):
                for told in retold(p, three[kept]):
                    given = list(three)
                    given[changed] = told
                    for r in (0, 1, p, p + 1):
                        self.assertEqual(fourth(p, r, *given), [-2], (p, r, given))

    def test_not_on_one_line(self):
        for p in PRIMES:
            for r in (0, 1, 2, p, p + 1):
                self.assertEqual(fourth(p, r, [1, 0, 0], [0, 1, 0], [0, 0, 1]), [-2])
                self.assertEqual(fourth(p, r, [1, 0, 2], [0, 1, 1], [1, 1, 4]), [-2])

    def test_wrong(self):
        for p in PRIMES:
            for given in wrong_calls(["number"] + ["point"] * 3, (p, 2, [1, 0, 2], [0, 1, 1], [1, 1, 3])):
                self.assertEqual(fourth(*given), [-1], given)

    def test_wrong_counts_ahead_of_not_so(self):
        for three in (([1, 0, 2], [0, 1, 1], [1, 1, 3]), ([1, 0, 0], [0, 1, 0], [0, 0, 1])):
            for r in (1, LARGEST):
                for given in wrong_calls(["number"] + ["point"] * 3, (7, r, *three)):
                    self.assertEqual(fourth(*given), [-1], given)


if __name__ == "__main__":
    unittest.main()
