"""What the tests share: primes, wrong inputs, and the plane worked out by trying everything."""

PRIMES = (3, 5, 7, 11, 13, 17, 19, 23, 29, 31)
LARGEST = 4294967295

# Among the large ones are primes (1009, 65537, 2147483647, 4294967291) and others.
WRONG_PRIMES = [p for p in range(1000) if p not in PRIMES] + [
    1009, 3 * 1009, 31 * 31, 65537, 2147483647, 2147483648, 4294967291, 4294967294, LARGEST]

WRONG_LENGTHS = [[], [1], [1, 2], [0, 0], [1, 2, 3, 4], [0, 0, 1, 0], [1, 0, 0, 0, 1], [1, 1, 6, 0, 0, 0],
                 [1, 2, 3, 4, 5, 6, 1], [0, 0, 1, 0, 0, 1, 0, 0], [1, 0, 0, 0, 1, 0, 0, 0, 1]]


def forms(p):
    """Every point in its form, in order: of all triples those whose first number that isn't 0 is 1."""
    found = []
    for x in range(p):
        for y in range(p):
            for z in range(p):
                if [n for n in (x, y, z) if n != 0][:1] == [1]:
                    found.append([x, y, z])
    return sorted(found)


def highest(p, n):
    """The largest number up to LARGEST that is n modulo p."""
    return LARGEST - (LARGEST - n) % p


def retold(p, x):
    """The numbers x in every other scale, and with p and more added to them one way and another."""
    told = []
    for k in range(1, p):
        scaled = [k * n % p for n in x]
        told.append(scaled)
        told.append([k * n for n in x])
        told.append([n + p for n in scaled])
        told.append([scaled[0] + p, scaled[1], scaled[2] + 5 * p])
        told.append([highest(p, n) for n in scaled])
        told.append([scaled[0], highest(p, scaled[1]), scaled[2] + 1000 * p])
    return told


def naughts(p):
    """Threes of numbers that are all 0 modulo p."""
    return [[0, 0, 0], [p, 0, 0], [0, p, 0], [0, 0, p], [p, p, p], [2 * p, 3 * p, 0], [highest(p, 0)] * 3]


def wrong_triples(p):
    return WRONG_LENGTHS + naughts(p)
