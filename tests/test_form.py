"""form: the one form of a point or line."""

import unittest

from planebook.desk import form
from samples import LARGEST, PRIMES, WRONG_PRIMES, forms, retold, wrong_triples


class Form(unittest.TestCase):
    def test_example(self):
        self.assertEqual(form(7, [0, 3, 5]), [0, 0, 1, 4])

    def test_ordinary(self):
        self.assertEqual(form(3, [2, 1, 0]), [0, 1, 2, 0])
        self.assertEqual(form(5, [3, 4, 2]), [0, 1, 3, 4])
        self.assertEqual(form(7, [0, 0, 6]), [0, 0, 0, 1])
        self.assertEqual(form(11, [2, 0, 3]), [0, 1, 0, 7])
        self.assertEqual(form(31, [30, 1, 2]), [0, 1, 30, 29])
        self.assertEqual(form(31, [2, 1, 30]), [0, 1, 16, 15])

    def test_first_number_leads_not_the_last(self):
        self.assertEqual(form(7, [2, 0, 1]), [0, 1, 0, 4])
        self.assertEqual(form(7, [0, 5, 1]), [0, 0, 1, 3])

    def test_first_number_is_0_only_modulo_p(self):
        self.assertEqual(form(7, [7, 3, 5]), [0, 0, 1, 4])
        self.assertEqual(form(7, [14, 21, 700000002]), [0, 0, 0, 1])

    def test_largest_numbers(self):
        # 4294967295 is 3 modulo 7, 11 and 31: 4294967296 is 2 to the 32, and 2 to the 30 is 1 for each.
        self.assertEqual(form(7, [LARGEST, 1, 0]), [0, 1, 5, 0])
        self.assertEqual(form(11, [1, LARGEST, LARGEST]), [0, 1, 3, 3])
        self.assertEqual(form(31, [LARGEST, LARGEST, LARGEST]), [0, 1, 1, 1])
        self.assertEqual(form(31, [LARGEST, 1, 6]), [0, 1, 21, 2])

    def test_every_point_told_in_its_form(self):
        for p in PRIMES:
            for point in forms(p):
                self.assertEqual(form(p, point), [0] + point)

    def test_same_in_other_numbers(self):
        for p in (3, 5, 7):
            for point in forms(p):
                for told in retold(p, point):
                    self.assertEqual(form(p, told), [0] + point, (p, told))

    def test_same_in_other_numbers_large_p(self):
        for p in PRIMES:
            for point in ([0, 0, 1], [0, 1, 0], [0, 1, p - 1], [1, 0, 0], [1, 0, 2], [1, 2, 1], [1, p - 1, p - 1]):
                for told in retold(p, point):
                    self.assertEqual(form(p, told), [0] + point, (p, told))

    def test_wrong_p(self):
        for p in WRONG_PRIMES:
            self.assertEqual(form(p, [1, 2, 4]), [-1], p)

    def test_wrong_x(self):
        for p in PRIMES:
            for x in wrong_triples(p):
                self.assertEqual(form(p, x), [-1], (p, x))

    def test_wrong_p_and_x(self):
        for p in (0, 1, 2, 9, 37, LARGEST):
            for x in ([], [0, 0, 0], [p, p, p], [1] * 9):
                self.assertEqual(form(p, x), [-1], (p, x))


if __name__ == "__main__":
    unittest.main()
