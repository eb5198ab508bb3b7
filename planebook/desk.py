"""The calls. Each answers a list: 0 and what is asked for, or the number of a refusal alone.

-1: p is no odd prime up to 31, or something handed over is not what it should be. -2: as the call tells.
"""

ODD_PRIMES = (3, 5, 7, 11, 13, 17, 19, 23, 29, 31)


def is_odd_prime(p):
    """Whether p is an odd prime, 31 at most."""
    return p in ODD_PRIMES


def first_not_zero(p, numbers):
    """The first of the numbers that is not 0 modulo p, modulo p; 0 if there is none."""
    for n in numbers:
        if n % p != 0:
            return n % p
    return 0


def is_triple(p, numbers):
    """Whether these are the numbers of a point, or of a line."""
    return len(numbers) == 3 and first_not_zero(p, numbers) != 0


def inverse(p, a):
    """The number that a, not 0 modulo p, is to be multiplied by to give 1."""
    # a to the power p - 1 is 1 modulo a prime, so one factor less is the inverse.
    result = 1
    for step in range(p - 2):
        result = result * a % p
    return result


def form_of(p, numbers):
    """The form of numbers that are not all 0 modulo p."""
    scale = inverse(p, first_not_zero(p, numbers))
    return [scale * n % p for n in numbers]


def place_of(p, point):
    """How many points are before this one, which is in its form."""
    # In order: 0 0 1 alone, then the p points 0 1 z, then the p * p points 1 y z.
    if point[0] == 1:
        return 1 + p + p * point[1] + point[2]
    if point[1] == 1:
        return 1 + point[2]
    return 0


def point_at(p, i):
    """The point, in its form, that has i before it; i is at most p * p + p."""
    if i == 0:
        return [0, 0, 1]
    if i <= p:
        return [0, 1, i - 1]
    rest = i - 1 - p
    return [1, rest // p, rest % p]


def form(p, x):
    """The form of the point or line x."""
    if not (is_odd_prime(p) and is_triple(p, x)):
        return [-1]
    return [0] + form_of(p, x)


def number(p, x):
    """How many points are before the point x in order."""
    if not (is_odd_prime(p) and is_triple(p, x)):
        return [-1]
    return [0, place_of(p, form_of(p, x))]


def nth(p, i):
    """The point that has i before it; -2: there is none."""
    if not is_odd_prime(p):
        return [-1]
    if i > p * p + p:
        return [-2]
    return [0] + point_at(p, i)


def on(p, x, l):
    """1 if the point x is on the line l, else 0."""
    if not (is_odd_prime(p) and is_triple(p, x) and is_triple(p, l)):
        return [-1]
    total = x[0] * l[0] + x[1] * l[1] + x[2] * l[2]
    return [0, 1 if total % p == 0 else 0]
