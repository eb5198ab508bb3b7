"""What the tests share: primes, right and wrong inputs, and the plane worked out by trying everything."""

import itertools

PRIMES = (3, 5, 7, 11, 13, 17, 19, 23, 29, 31)
LARGEST = 4294967295

# Among the large ones are primes (1009, 65537, 2147483647, 4294967291) and others.
WRONG_PRIMES = [p for p in range(1000) if p not in PRIMES] + [
    1009, 3 * 1009, 31 * 31, 65537, 2147483647, 2147483648, 4294967291, 4294967294, LARGEST]

SIZES = {"point": 3, "map": 9, "conic": 6}

# Every call, and what it is handed behind p; a line is told like a point.
CALLS = {
    "form": ["point"], "number": ["point"], "nth": ["number"], "on": ["point"] * 2,
    "join": ["point"] * 2, "cross": ["point"] * 4, "fourth": ["number"] + ["point"] * 3, "map_of": ["point"] * 8,
    "behind": ["map"] * 2, "back": ["map"], "image": ["map", "point"], "carried": ["map", "point"],
    "order": ["map"], "fixed": ["map"], "conic": ["point"] * 5, "rank": ["conic"],
    "points": ["conic"], "polar": ["conic", "point"], "pole": ["conic", "point"], "crossed": ["conic", "point"],
    "touched": ["conic", "point"], "shared": ["conic"] * 2, "moved": ["map", "conic"],
}

UNIT = [1, 0, 0, 0, 1, 0, 0, 0, 1]

# Maps of every p: their determinants are 1 or -1. A conic of rank 3 for every p.
TURN = [0, 0, 1, 1, 0, 0, 0, 1, 0]
SHEAR = [1, 2, 0, 0, 1, 0, 0, 0, 1]
MIXED = [1, 2, 3, 0, 1, 4, 5, 6, 0]
CIRCLE = [1, 1, 1, 0, 0, 0]


def forms(p):
    """Every point in its form, in order: of all triples those whose first number that isn't 0 is 1."""
    found = []
    for x in range(p):
        for y in range(p):
            for z in range(p):
                if [n for n in (x, y, z) if n != 0][:1] == [1]:
                    found.append([x, y, z])
    return sorted(found)


def normal(p, x):
    """The form of x, found by trying every scale."""
    for k in range(1, p):
        scaled = [k * n % p for n in x]
        if [n for n in scaled if n != 0][:1] == [1]:
            return scaled
    raise ValueError(x)


def lies(p, x, l):
    return sum(a * b for a, b in zip(x, l)) % p == 0


def leibniz(m):
    """The determinant as the sum over all orders of the columns, not reduced."""
    total = 0
    for order in itertools.permutations(range(3)):
        swaps = sum(order[i] > order[j] for i in range(3) for j in range(i + 1, 3))
        total += (-1) ** swaps * m[order[0]] * m[3 + order[1]] * m[6 + order[2]]
    return total


def taken(p, m, x):
    """The numbers that the map m makes of x."""
    return [sum(m[3 * row + column] * x[column] for column in range(3)) % p for row in range(3)]


def times(p, m, n):
    """The matrix m times the matrix n."""
    return [sum(m[3 * row + k] * n[3 * k + column] for k in range(3)) % p for row in range(3) for column in range(3)]


def undoing(p, m):
    """A matrix that undoes m, found row by row by trying every row."""
    columns = [m[0::3], m[1::3], m[2::3]]
    rows = []
    for place in range(3):
        rows += [x for x in forms(p) if [lies(p, x, column) for column in columns].count(True) == 2
                 and not lies(p, x, columns[place])]
    scales = [pow(sum(a * b for a, b in zip(row, column)), -1, p) for row, column in zip(rows, columns)]
    return [scale * n % p for scale, row in zip(scales, rows) for n in row]


def changed(p, g, m):
    """What the map m is if g's images are taken for the points."""
    return times(p, g, times(p, m, undoing(p, g)))


def value(p, k, x):
    a, b, c, d, e, f = k
    return (a * x[0] ** 2 + b * x[1] ** 2 + c * x[2] ** 2 + d * x[1] * x[2] + e * x[0] * x[2] + f * x[0] * x[1]) % p


def two_lines(p, l, m):
    """The conic that is the two lines l and m: rank 2, or 1 if they are the same."""
    return [l[0] * m[0] % p, l[1] * m[1] % p, l[2] * m[2] % p,
            (l[1] * m[2] + l[2] * m[1]) % p, (l[0] * m[2] + l[2] * m[0]) % p, (l[0] * m[1] + l[1] * m[0]) % p]


def squares(p, g, scales):
    """The sum of the squares of g's rows times the scales; its rank is the number of scales that aren't 0."""
    terms = [[scale * n for n in two_lines(p, g[3 * row:3 * row + 3], g[3 * row:3 * row + 3])]
             for row, scale in enumerate(scales)]
    return [sum(column) % p for column in zip(*terms)]


def no_square(p):
    """The least number that no number's square is modulo p."""
    return min(set(range(1, p)) - {n * n % p for n in range(p)})


def conics_of(p, source):
    """A conic of each kind, as (rank, how many points are on it, the conic in some numbers)."""
    n, found = no_square(p), []
    for rank, count, scales in ((1, p + 1, (1, 0, 0)), (1, p + 1, (0, n, 0)), (2, 2 * p + 1, (1, p - 1, 0)),
                                (2, 2 * p + 1, (0, n, p - n)), (2, 1, (1, p - n, 0)), (2, 1, (0, n, p - 1)),
                                (3, p + 1, (1, 1, 1)), (3, p + 1, (1, 1, n)), (3, p + 1, (n, 1, p - 1))):
        found.append((rank, count, other_numbers(source, p, squares(p, draw(source, "map", p), scales))))
    return found


def polar_of(p, k, x):
    """The line that the words tell, in its form."""
    a, b, c, d, e, f = k
    return normal(p, [2 * a * x[0] + f * x[1] + e * x[2], f * x[0] + 2 * b * x[1] + d * x[2],
                      e * x[0] + d * x[1] + 2 * c * x[2]])


def is_proper(p, k):
    """Whether the conic's rank is 3."""
    a, b, c, d, e, f = k
    return leibniz([2 * a, f, e, f, 2 * b, d, e, d, 2 * c]) % p != 0


def aligned(p, *points):
    """Whether some line has all of these points, found by trying every line."""
    return any(all(lies(p, x, line) for x in points) for line in forms(p))


def is_right(kind, p, numbers):
    if kind == "map":
        return leibniz(numbers) % p != 0
    return any(n % p != 0 for n in numbers)


def stream(seed):
    """Numbers from 0 to LARGEST, the same ones at each run."""
    state = seed
    while True:
        state = (state * 6364136223846793005 + 1442695040888963407) % 2 ** 64
        yield state >> 32


def draw(source, kind, p):
    """The numbers of some point (or line), map or conic."""
    while True:
        numbers = [next(source) for place in range(SIZES[kind])]
        if is_right(kind, p, numbers):
            return numbers


def all_maps(p):
    """Every map in its form, p as small as 3."""
    for rest in itertools.product(range(p), repeat=9):
        if [n for n in rest if n != 0][:1] == [1] and leibniz(rest) % p != 0:
            yield list(rest)


def all_conics(p):
    """Every conic in its form, p as small as 5."""
    for rest in itertools.product(range(p), repeat=6):
        if [n for n in rest if n != 0][:1] == [1]:
            yield list(rest)


def highest(p, n):
    """The largest number up to LARGEST that is n modulo p."""
    return LARGEST - (LARGEST - n) % p


def retold(p, x):
    """The numbers x in every other scale, and with p and more added to them one way and another."""
    told = []
    for k in range(1, p):
        scaled = [k * n % p for n in x]
        told.append(scaled)
        told.append([k * n for n in x])
        told.append([n + p for n in scaled])
        told.append([n + (p, 0, 5 * p)[i % 3] for i, n in enumerate(scaled)])
        told.append([highest(p, n) for n in scaled])
        told.append([(n, highest(p, n), n + 1000 * p)[i % 3] for i, n in enumerate(scaled)])
    return told


def other_numbers(source, p, x):
    """The numbers x told otherwise, in one way out of many."""
    k = 1 + next(source) % (p - 1)
    return [next(source) % (LARGEST // p) * p + k * n % p for n in x]


def naughts(p, size=3):
    """So many numbers that are all 0 modulo p."""
    found = [[0] * size, [p] * size, [highest(p, 0)] * size, [(2 * p, 3 * p, 0)[i % 3] for i in range(size)]]
    return found + [[p if i == place else 0 for i in range(size)] for place in range(size)]


def wrong_lengths(size):
    """Lists of each length from 0 to 9 but this one."""
    found = []
    for length in range(10):
        if length != size:
            found += [[1] * length, UNIT[:length], UNIT[9 - length:], list(range(1, length + 1)), [LARGEST] * length]
    return found


def singular(p):
    """Nine numbers, not all 0, with a determinant of 0 modulo p, of rank 1 and 2."""
    found = [[1, 0, 0, 0, 1, 0, 0, 0, 0], [1, 0, 0, 0, 1, 0, 0, 0, p], [1, 0, 0, 0, p, 0, 0, 0, 1],
             [p, 0, 0, 0, 1, 0, 0, 0, 1], [1, 1, 0, 1, p + 1, 0, 0, 0, 1], [0, 1, 0, 0, 0, 1, 0, 0, 0],
             [1, 2, 3, 4, 5, 6, 5, 7, 9], [1, 0, 2, 3, 0, 4, 5, 0, 6], [1, 2, 3, 0, 0, 0, 1, 1, 1],
             [1, 2, 3, p + 1, p + 2, p + 3, 0, 1, 1], [0, 0, 1, 0, 0, 0, 0, 0, 0], [1] * 9,
             [1, 2, 4, 2, 4, 8, 3, 6, 12], [0, 0, 0, 0, 0, 0, 0, 0, 1]]
    return found + [[highest(p, n) for n in m] for m in found]


def wrongs(kind, p):
    """What is no point (or line), no map, no conic."""
    found = wrong_lengths(SIZES[kind]) + naughts(p, SIZES[kind])
    return found + singular(p) if kind == "map" else found


def wrong_triples(p):
    return wrongs("point", p)


def wrong_calls(kinds, given):
    """Of a call's arguments, p first, all that a wrong p, or one wrong list, or two, makes of them."""
    p, rest = given[0], list(given[1:])
    for wrong in WRONG_PRIMES:
        yield (wrong, *rest)
    places = [place for place, kind in enumerate(kinds) if kind in SIZES]
    for place in places:
        for numbers in wrongs(kinds[place], p):
            yield (p, *rest[:place], numbers, *rest[place + 1:])
    for first, second in itertools.combinations(places, 2):
        for numbers in ([], [0] * SIZES[kinds[second]], [1] * 4, [p] * SIZES[kinds[second]]):
            both = list(rest)
            both[first] = [p] * SIZES[kinds[first]]
            both[second] = numbers
            yield (p, *both)
    for wrong in (0, 1, 2, 9, 37, LARGEST):
        for numbers in ([], [0] * 3, [0] * 9, [1] * 9, [wrong] * 6):
            yield (wrong, *[numbers if kind in SIZES else one for kind, one in zip(kinds, rest)])
