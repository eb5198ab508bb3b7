"""The tests' own samples are what they say."""

import unittest

from samples import LARGEST, PRIMES, WRONG_PRIMES, forms, highest, naughts, retold


class Samples(unittest.TestCase):
    def test_primes_are_all_odd_primes_up_to_31(self):
        self.assertEqual(list(PRIMES), [n for n in range(3, 32) if all(n % d != 0 for d in range(2, n))])

    def test_wrong_primes_hold_the_edges(self):
        for p in (0, 1, 2, 4, 9, 15, 21, 25, 27, 32, 33, 37, LARGEST):
            self.assertIn(p, WRONG_PRIMES)

    def test_there_are_as_many_forms_as_points(self):
        for p in PRIMES:
            self.assertEqual(len(forms(p)), p * p + p + 1)

    def test_retold_numbers_are_multiples_in_range(self):
        for p in PRIMES:
            for told in retold(p, [0, 1, p - 1]):
                self.assertEqual([n % p for n in told], [0, told[1] % p, (p - 1) * told[1] % p])
                self.assertNotEqual(told[1] % p, 0)
                self.assertTrue(all(0 <= n <= LARGEST for n in told))

    def test_highest_is_the_highest(self):
        for p in PRIMES:
            for n in range(p):
                self.assertEqual(highest(p, n) % p, n)
                self.assertTrue(LARGEST - p < highest(p, n) <= LARGEST)

    def test_naughts_are_0(self):
        for p in PRIMES:
            for x in naughts(p):
                self.assertEqual([n % p for n in x], [0, 0, 0])


if __name__ == "__main__":
    unittest.main()
