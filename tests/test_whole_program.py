"""What holds of every call: p told right from wrong, the numbers told modulo p, answers in their form."""

import inspect
import unittest

from planebook import desk
from samples import (CALLS, LARGEST, PRIMES, SIZES, UNIT, draw, forms, highest, is_right, leibniz, normal,
                     other_numbers, stream, wrong_calls)

# What each function takes, name by name.
PARAMETERS = {
    "form": "p x", "number": "p x", "nth": "p i", "on": "p x l", "join": "p x y", "cross": "p a b c d",
    "fourth": "p r a b c", "map_of": "p a b c d e f g h", "behind": "p m n", "back": "p m", "image": "p m x",
    "carried": "p m l", "order": "p m", "fixed": "p m", "conic": "p a b c d e", "rank": "p k", "points": "p k",
    "polar": "p k x", "pole": "p k l", "crossed": "p k l", "touched": "p k x", "shared": "p j k", "moved": "p m k",
}

# What each answers behind the 0: a number (a count, a yes or no), a triple, nine or six in their form, or a list
# that is counted. fixed has a shape of its own.
SHAPES = {
    "form": [3], "number": ["number"], "nth": [3], "on": ["number"], "join": [3], "cross": ["number"], "fourth": [3],
    "map_of": [9], "behind": [9], "back": [9], "image": [3], "carried": [3], "order": ["number"], "conic": [6],
    "rank": ["number"], "points": ["number"], "polar": [3], "pole": [3], "crossed": ["list"], "touched": ["list"],
    "shared": ["list"], "moved": [6],
}

# Right for every odd prime.
GOOD = {"point": [1, 0, 2], "map": [1, 2, 3, 0, 1, 4, 5, 6, 0], "conic": [1, 1, 1, 0, 0, 0], "number": 1}

# Which arguments are to be points on the line of which two others.
LINED = {"cross": ((0, 1, 2), (0, 1, 3)), "fourth": ((1, 2, 3),)}


def call(name, given):
    return getattr(desk, name)(*given)


def answered(name, source, p):
    """Arguments, in large numbers, that the call doesn't refuse."""
    for turn in range(1000):
        given = [draw(source, kind, p) if kind in SIZES else next(source) % (p + 1) for kind in CALLS[name]]
        for first, second, other in LINED.get(name, ()):
            s, t = next(source) % p, next(source) % p
            given[other] = [(s * x + t * y) % p for x, y in zip(given[first], given[second])]
        if call(name, (p, *given))[0] == 0:
            return given
    raise AssertionError(f"{name} refuses all for {p}")


def told_otherwise(name, given, change):
    """The arguments with each list changed, and the numbers r and i, which aren't modulo p, left."""
    return [change(one) if kind in SIZES else one for kind, one in zip(CALLS[name], given)]


class WholeProgram(unittest.TestCase):
    def test_names_and_parameters(self):
        self.assertEqual(set(PARAMETERS), set(CALLS))
        for name, parameters in PARAMETERS.items():
            found = inspect.signature(getattr(desk, name)).parameters
            self.assertEqual(list(found), parameters.split(), name)
            self.assertEqual(len(found), 1 + len(CALLS[name]), name)

    def test_every_p_is_told_right_from_wrong(self):
        large = [41, 43, 47, 49, 51, 93, 961, 1009, 65537, 2 ** 31 - 1, 2 ** 31, 2 ** 32 - 31, 2 ** 32 - 5, LARGEST]
        large += [p * q for p in PRIMES for q in PRIMES] + [p + 2 ** 16 for p in PRIMES]
        for name, kinds in CALLS.items():
            for p in list(range(41)) + large:
                answer = call(name, (p, *[GOOD[kind] for kind in kinds]))
                self.assertEqual(answer == [-1], p not in PRIMES, (name, p, answer))

    def test_every_p_with_what_is_answered(self):
        source = stream(201)
        for name in CALLS:
            given = answered(name, source, 31)
            for p in list(range(41)) + [3 * 31, 5 * 31, 31 * 31, 2 ** 31 - 1, LARGEST]:
                if p not in PRIMES:
                    self.assertEqual(call(name, (p, *given)), [-1], (name, p))

    def test_wrong(self):
        source = stream(202)
        for name, kinds in CALLS.items():
            for p in (3, 31):
                for given in wrong_calls(kinds, (p, *answered(name, source, p))):
                    self.assertEqual(call(name, given), [-1], (name, given))

    def test_large_numbers_as_modulo_p(self):
        source = stream(203)
        for name in CALLS:
            for p in PRIMES:
                for turn in range(4):
                    given = answered(name, source, p)
                    small = told_otherwise(name, given, lambda x: [n % p for n in x])
                    large = told_otherwise(name, given, lambda x: [highest(p, n) for n in x])
                    answer = call(name, (p, *small))
                    self.assertEqual(answer[0], 0)
                    self.assertEqual(call(name, (p, *given)), answer, (name, p, given))
                    self.assertEqual(call(name, (p, *large)), answer, (name, p, large))

    def test_refusals_at_large_numbers_as_modulo_p(self):
        # Without choosing them: refused or not, the answer is that at the same numbers modulo p.
        source = stream(204)
        for name, kinds in CALLS.items():
            for p in PRIMES:
                for turn in range(6):
                    given = [[next(source) for place in range(SIZES[kind])] if kind in SIZES else next(source) % 40
                             for kind in kinds]
                    small = told_otherwise(name, given, lambda x: [n % p for n in x])
                    self.assertEqual(call(name, (p, *given)), call(name, (p, *small)), (name, p, given))

    def test_the_largest_number_alone(self):
        for name, kinds in CALLS.items():
            for p in PRIMES:
                given = [[LARGEST] * SIZES[kind] if kind in SIZES else 1 for kind in kinds]
                small = told_otherwise(name, given, lambda x: [n % p for n in x])
                self.assertEqual(call(name, (p, *given)), call(name, (p, *small)), (name, p))

    def test_same_in_other_numbers(self):
        source = stream(205)
        for name in CALLS:
            for p in PRIMES:
                given = answered(name, source, p)
                answer = call(name, (p, *given))
                for turn in range(4):
                    told = told_otherwise(name, given, lambda x: other_numbers(source, p, x))
                    self.assertEqual(call(name, (p, *told)), answer, (name, p, given, told))

    def test_what_is_told_is_in_its_form_and_in_order(self):
        source = stream(206)
        for name, shape in SHAPES.items():
            for p in PRIMES:
                answer = call(name, (p, *answered(name, source, p)))
                if shape == ["number"]:
                    self.assertEqual(len(answer), 2, (name, p, answer))
                elif shape == ["list"]:
                    self.check_list(p, answer[1:])
                else:
                    self.assertEqual(len(answer), 1 + shape[0], (name, p, answer))
                    self.assertEqual(answer[1:], normal(p, answer[1:]), (name, p, answer))

    def test_what_fixed_tells_is_in_its_form_and_in_order(self):
        source = stream(207)
        for p in PRIMES:
            maps = [draw(source, "map", p), [1, 1, 0, 0, 1, 0, 0, 0, 1], [1, 0, 0, 0, p - 1, 0, 0, 0, 1], UNIT]
            for m in maps:
                answer = desk.fixed(p, m)
                self.assertIn(answer[1], (0, 1, 2))
                line = answer[2:5] if answer[1] == 1 else []
                self.assertEqual(line, normal(p, line) if line else [])
                self.check_list(p, answer[2 + len(line):])

    def check_list(self, p, told):
        triples = [told[i:i + 3] for i in range(1, len(told), 3)]
        self.assertEqual(len(told), 1 + 3 * told[0])
        self.assertEqual(triples, [x for x in forms(p) if x in triples])

    def test_good_is_good(self):
        for p in PRIMES:
            for kind in SIZES:
                self.assertTrue(is_right(kind, p, GOOD[kind]))
        self.assertEqual(leibniz(GOOD["map"]), 1)


if __name__ == "__main__":
    unittest.main()
