"""number and nth: the points in order."""

import unittest

from planebook.desk import form, nth, number
from samples import LARGEST, PRIMES, WRONG_PRIMES, forms, highest, retold, wrong_triples


class Number(unittest.TestCase):
    def test_ordinary(self):
        self.assertEqual(number(3, [0, 0, 2]), [0, 0])
        self.assertEqual(number(3, [2, 2, 2]), [0, 8])
        self.assertEqual(number(7, [0, 0, 1]), [0, 0])
        self.assertEqual(number(7, [0, 1, 0]), [0, 1])
        self.assertEqual(number(7, [0, 3, 5]), [0, 5])
        self.assertEqual(number(7, [1, 0, 0]), [0, 8])
        self.assertEqual(number(7, [1, 6, 6]), [0, 56])
        self.assertEqual(number(31, [30, 1, 1]), [0, 992])
        self.assertEqual(number(31, [2, 0, 2]), [0, 33])

    def test_every_point(self):
        for p in PRIMES:
            for place, point in enumerate(forms(p)):
                self.assertEqual(number(p, point), [0, place], (p, point))

    def test_same_in_other_numbers(self):
        for p in (3, 5, 7):
            for place, point in enumerate(forms(p)):
                for told in retold(p, point):
                    self.assertEqual(number(p, told), [0, place], (p, told))

    def test_same_in_other_numbers_large_p(self):
        for p in PRIMES:
            ordered = forms(p)
            for place in (0, 1, 2, p, p + 1, p + 2, 2 * p, 2 * p + 1, p * p, p * p + p):
                for told in retold(p, ordered[place]):
                    self.assertEqual(number(p, told), [0, place], (p, told))

    def test_wrong_p(self):
        for p in WRONG_PRIMES:
            self.assertEqual(number(p, [1, 2, 4]), [-1], p)

    def test_wrong_x(self):
        for p in PRIMES:
            for x in wrong_triples(p):
                self.assertEqual(number(p, x), [-1], (p, x))

    def test_wrong_p_and_x(self):
        for p in (0, 1, 2, 9, 37, LARGEST):
            for x in ([], [0, 0, 0], [p, p, p], [1] * 9):
                self.assertEqual(number(p, x), [-1], (p, x))


class Nth(unittest.TestCase):
    def test_examples(self):
        self.assertEqual(nth(7, 0), [0, 0, 0, 1])
        self.assertEqual(nth(7, 1), [0, 0, 1, 0])
        self.assertEqual(nth(7, 56), [0, 1, 6, 6])
        self.assertEqual(nth(7, 57), [-2])

    def test_ordinary(self):
        self.assertEqual(nth(3, 3), [0, 0, 1, 2])
        self.assertEqual(nth(3, 4), [0, 1, 0, 0])
        self.assertEqual(nth(3, 12), [0, 1, 2, 2])
        self.assertEqual(nth(31, 31), [0, 0, 1, 30])
        self.assertEqual(nth(31, 32), [0, 1, 0, 0])
        self.assertEqual(nth(31, 63), [0, 1, 1, 0])
        self.assertEqual(nth(31, 992), [0, 1, 30, 30])

    def test_every_place(self):
        for p in PRIMES:
            for place, point in enumerate(forms(p)):
                self.assertEqual(nth(p, place), [0] + point, (p, place))

    def test_none_behind_the_last(self):
        for p in PRIMES:
            count = p * p + p + 1
            self.assertEqual(nth(p, count - 1), [0, 1, p - 1, p - 1])
            # i is a count, not a number modulo p: what is 0 modulo p, or modulo the count, is too large all the same.
            for i in (count, count + 1, p * count, p * p * p, 2 ** 31, highest(p, 0), highest(count, 0), LARGEST):
                self.assertEqual(nth(p, i), [-2], (p, i))

    def test_wrong_p(self):
        for p in WRONG_PRIMES:
            for i in (0, 1, 5):
                self.assertEqual(nth(p, i), [-1], (p, i))

    def test_wrong_p_counts_ahead_of_too_large(self):
        for p in WRONG_PRIMES:
            self.assertEqual(nth(p, LARGEST), [-1], p)
        self.assertEqual(nth(9, 91), [-1])
        self.assertEqual(nth(2, 7), [-1])


class Undo(unittest.TestCase):
    def test_number_undoes_nth(self):
        for p in PRIMES:
            for i in range(p * p + p + 1):
                self.assertEqual(number(p, nth(p, i)[1:]), [0, i])

    def test_nth_undoes_number(self):
        for p in PRIMES:
            for point in forms(p):
                told = [(p - 1) * n for n in point]
                self.assertEqual(nth(p, number(p, told)[1]), [0] + point)
                self.assertEqual(nth(p, number(p, told)[1]), form(p, told))


if __name__ == "__main__":
    unittest.main()
