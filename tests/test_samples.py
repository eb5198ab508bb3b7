"""The tests' own samples are what they say."""

import itertools
import unittest

from samples import (LARGEST, PRIMES, SIZES, UNIT, WRONG_PRIMES, aligned, all_conics, all_maps, conics_of, draw, forms,
                     highest, is_proper, is_right, leibniz, lies, naughts, no_square, normal, other_numbers, polar_of,
                     retold, singular, squares, stream, taken, times, two_lines, undoing, value, wrong_calls,
                     wrong_lengths)


class Samples(unittest.TestCase):
    def test_primes_are_all_odd_primes_up_to_31(self):
        self.assertEqual(list(PRIMES), [n for n in range(3, 32) if all(n % d != 0 for d in range(2, n))])

    def test_wrong_primes_hold_the_edges(self):
        for p in (0, 1, 2, 4, 9, 15, 21, 25, 27, 32, 33, 37, LARGEST):
            self.assertIn(p, WRONG_PRIMES)

    def test_there_are_as_many_forms_as_points(self):
        for p in PRIMES:
            self.assertEqual(len(forms(p)), p * p + p + 1)

    def test_normal_is_a_form(self):
        for p in (3, 5, 7):
            for x in itertools.product(range(p), repeat=3):
                if any(x):
                    self.assertIn(normal(p, x), forms(p))
        with self.assertRaises(ValueError):
            normal(5, [5, 0, 10])

    def test_retold_numbers_are_multiples_in_range(self):
        for p in PRIMES:
            for size in SIZES.values():
                x = [0, 1] + [(p - 1) ** place % p for place in range(1, size - 1)]
                for told in retold(p, x):
                    self.assertEqual([n % p for n in told], [n * told[1] % p for n in x])
                    self.assertNotEqual(told[1] % p, 0)
                    self.assertTrue(all(0 <= n <= LARGEST for n in told))

    def test_other_numbers_tell_the_same(self):
        source = stream(1)
        for p in PRIMES:
            for kind in SIZES:
                x = draw(source, kind, p)
                told = other_numbers(source, p, x)
                self.assertEqual(normal(p, told), normal(p, x))
                self.assertTrue(all(0 <= n <= LARGEST for n in told))

    def test_highest_is_the_highest(self):
        for p in PRIMES:
            for n in range(p):
                self.assertEqual(highest(p, n) % p, n)
                self.assertTrue(LARGEST - p < highest(p, n) <= LARGEST)

    def test_naughts_are_0(self):
        for p in PRIMES:
            for size in SIZES.values():
                for x in naughts(p, size):
                    self.assertEqual([n % p for n in x], [0] * size)

    def test_wrong_lengths_are_all_but_one(self):
        for size in SIZES.values():
            self.assertEqual({len(x) for x in wrong_lengths(size)}, set(range(10)) - {size})

    def test_leibniz(self):
        self.assertEqual(leibniz(UNIT), 1)
        self.assertEqual(leibniz([0, 1, 0, 1, 0, 0, 0, 0, 1]), -1)
        self.assertEqual(leibniz([2, 3, 5, 7, 11, 13, 17, 19, 23]), -78)

    def test_singular_have_a_determinant_of_0(self):
        for p in PRIMES:
            for m in singular(p):
                self.assertEqual(leibniz(m) % p, 0, (p, m))
                self.assertTrue(any(n % p != 0 for n in m), (p, m))

    def test_there_are_as_many_maps_as_fours_without_three_on_a_line(self):
        self.assertEqual(len(list(all_maps(3))), 13 * 12 * 9 * 4)

    def test_taken(self):
        self.assertEqual(taken(31, [1, 2, 3, 4, 5, 6, 7, 8, 10], [1, 0, 2]), [7, 16, 27])
        self.assertEqual(taken(5, [1, 2, 3, 4, 5, 6, 7, 8, 10], [1, 1, 0]), [3, 4, 0])

    def test_times_and_undoing(self):
        source = stream(4)
        for p in PRIMES:
            m, n, x = draw(source, "map", p), draw(source, "map", p), draw(source, "point", p)
            self.assertEqual(taken(p, times(p, m, n), x), taken(p, m, taken(p, n, x)))
            self.assertEqual(times(p, m, undoing(p, m)), UNIT)
            self.assertEqual(times(p, undoing(p, m), m), UNIT)

    def test_conics_of_lines(self):
        source = stream(6)
        for p in PRIMES:
            l, m, g = draw(source, "point", p), draw(source, "point", p), draw(source, "map", p)
            for x in forms(p):
                self.assertEqual(value(p, two_lines(p, l, m), x) == 0, lies(p, x, l) or lies(p, x, m))
                first, second, third = taken(p, g, x)
                self.assertEqual(value(p, squares(p, g, (1, 2, 5)), x),
                                 (first * first + 2 * second * second + 5 * third * third) % p)

    def test_conics_of_each_kind_have_so_many_points(self):
        source = stream(7)
        for p in PRIMES:
            for rank, count, k in conics_of(p, source):
                self.assertEqual(len([x for x in forms(p) if value(p, k, x) == 0]), count, (p, k))
                self.assertEqual(is_proper(p, k), rank == 3, (p, k))

    def test_polar_of(self):
        self.assertEqual(polar_of(7, [1, 1, 6, 0, 0, 0], [1, 0, 1]), [1, 0, 6])
        self.assertEqual(polar_of(7, [0, 0, 0, 1, 2, 3], [1, 0, 0]), [0, 1, 3])

    def test_there_are_as_many_conics(self):
        for p in (3, 5):
            self.assertEqual(len(list(all_conics(p))), (p ** 6 - 1) // (p - 1))

    def test_no_square(self):
        self.assertEqual([no_square(p) for p in PRIMES], [2, 2, 3, 2, 2, 3, 2, 5, 2, 3])

    def test_aligned(self):
        self.assertTrue(aligned(5, [1, 0, 0], [0, 1, 0], [3, 4, 5]))
        self.assertFalse(aligned(5, [1, 0, 0], [0, 1, 0], [0, 0, 1]))
        self.assertTrue(lies(5, [1, 2, 3], [1, 1, 4]))

    def test_drawn_are_right_and_the_same_each_time(self):
        for kind, size in SIZES.items():
            first, second = stream(5), stream(5)
            for p in PRIMES:
                numbers = draw(first, kind, p)
                self.assertEqual(len(numbers), size)
                self.assertTrue(is_right(kind, p, numbers))
                self.assertEqual(draw(second, kind, p), numbers)
                self.assertTrue(all(0 <= n <= LARGEST for n in numbers))

    def test_wrong_calls_keep_the_rest(self):
        found = list(wrong_calls(["number", "point"], (7, 5, [1, 2, 3])))
        self.assertIn((9, 5, [1, 2, 3]), found)
        self.assertIn((7, 5, []), found)
        self.assertIn((7, 5, [7, 7, 7]), found)
        self.assertNotIn((7, 5, [1, 2, 3]), found)


if __name__ == "__main__":
    unittest.main()
