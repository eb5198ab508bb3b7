"""The calls. Each answers a list: 0 and what is asked for, or the number of a refusal alone.

-1: p is no odd prime up to 31, or something handed over is not what it should be. -2, -3: as the call tells.
"""

ODD_PRIMES = (3, 5, 7, 11, 13, 17, 19, 23, 29, 31)
IDENTITY = (1, 0, 0, 0, 1, 0, 0, 0, 1)


def first_not_zero(p, numbers):
    """The first of the numbers that is not 0 modulo p, modulo p; 0 if there is none."""
    for n in numbers:
        if n % p != 0:
            return n % p
    return 0


def are_triples(p, lists):
    """Whether each of the lists has the numbers of a point, or of a line."""
    return all([len(numbers) == 3 and first_not_zero(p, numbers) != 0 for numbers in lists])


def inverse(p, a):
    """The number that a, not 0 modulo p, is to be multiplied by to give 1."""
    # a to the power p - 1 is 1 modulo a prime, so one factor less is the inverse.
    result = 1
    for step in range(p - 2):
        result = result * a % p
    return result


def form_of(p, numbers):
    """The form of numbers that are not all 0 modulo p."""
    scale = inverse(p, first_not_zero(p, numbers))
    return [scale * n % p for n in numbers]


def all_points(p):
    """Every point in its form, in order; every line likewise."""
    return [[0, 0, 1]] + [[0, 1, z] for z in range(p)] + [[1, i // p, i % p] for i in range(p * p)]


def dot(p, x, y):
    """The sum of the products of x and y, number by number: 0 if the point x is on the line y."""
    return (x[0] * y[0] + x[1] * y[1] + x[2] * y[2]) % p


def mixed(p, s, x, t, y):
    """The numbers s x + t y, number by number."""
    return [(s * x[i] + t * y[i]) % p for i in range(len(x))]


def joined(p, x, y):
    """The line that two points are on, or the point that is on two lines; all 0 if they are the same."""
    return [(x[1] * y[2] - x[2] * y[1]) % p, (x[2] * y[0] - x[0] * y[2]) % p, (x[0] * y[1] - x[1] * y[0]) % p]


def are_same(p, x, y):
    """Whether x and y tell the same point, or line."""
    return first_not_zero(p, joined(p, x, y)) == 0


def determinant(p, m):
    """The determinant of nine numbers, row by row; of three points one behind the other: 0 if one line has them."""
    return dot(p, joined(p, m[0:3], m[3:6]), m[6:9])


def rows_of(m):
    """The three rows of nine numbers."""
    return [m[0:3], m[3:6], m[6:9]]


def transposed(m):
    """Nine numbers with rows and columns changed for one another."""
    return [m[3 * (i % 3) + i // 3] for i in range(9)]


def product(p, m, n):
    """The matrix m times the matrix n."""
    rows = rows_of(m)
    columns = rows_of(transposed(n))
    return [dot(p, rows[i // 3], columns[i % 3]) for i in range(9)]


def undone(p, m):
    """The inverse of the matrix m, times its determinant: as a map it undoes m."""
    # Two rows joined give 0 by each of them, and the determinant by the third.
    rows = rows_of(m)
    return transposed(joined(p, rows[1], rows[2]) + joined(p, rows[2], rows[0]) + joined(p, rows[0], rows[1]))


def applied(p, m, x):
    """The matrix m times the column x."""
    return [dot(p, row, x) for row in rows_of(m)]


def is_map(p, numbers):
    """Whether these are the numbers of a map."""
    return len(numbers) == 9 and determinant(p, numbers) != 0


def are_three_on_line(p, a, b, c):
    """Whether these are three different points on one line."""
    if are_same(p, a, b) or are_same(p, b, c) or are_same(p, a, c):
        return False
    return determinant(p, a + b + c) == 0


def weights(p, a, b, x):
    """Numbers s, t such that x is told by s a + t b; x is on the line of two points a, b."""
    # If x is s a + t b, then x joined with b is s times the line, a joined with x is t times it.
    line = joined(p, a, b)
    i = line.index(first_not_zero(p, line))
    return [joined(p, x, b)[i], joined(p, a, x)[i]]


def frame(p, a, b, c, d):
    """A matrix that takes 1 0 0, 0 1 0, 0 0 1, 1 1 1 to the four points; its determinant is 0 if there is none."""
    # Scaled so, the first three add up to a multiple of d. The determinant is the product of those of all
    # threes out of the four, so it is 0 just when three of them are on one line.
    first = determinant(p, d + b + c)
    second = determinant(p, a + d + c)
    third = determinant(p, a + b + d)
    return transposed([first * n for n in a] + [second * n for n in b] + [third * n for n in c])


def leaves_all(p, m):
    """Whether the map m leaves all points where they are."""
    return form_of(p, m) == list(IDENTITY)


def rank_of(p, m):
    """The rank of the matrix m, whose numbers are not all 0."""
    if determinant(p, m) != 0:
        return 3
    # What undone gives are the determinants of two rows by two columns; at rank 1 all of them are 0.
    return 1 if first_not_zero(p, undone(p, m)) == 0 else 2


def line_that_stays(p, m):
    """The line all of whose points the map m leaves, empty if there is none; m does not leave all points."""
    # What m multiplies by k stays: that's what gives 0 by each row of m - k, at rank 1 by one row alone.
    for k in range(1, p):
        rest = mixed(p, 1, m, -k, IDENTITY)
        if rank_of(p, rest) == 1:
            return [form_of(p, row) for row in rows_of(rest) if first_not_zero(p, row) != 0][0]
    return []


def counted(triples):
    """How many triples there are, then their numbers."""
    return [len(triples)] + [triples[i // 3][i % 3] for i in range(3 * len(triples))]


def is_conic(p, numbers):
    """Whether these are the numbers of a conic."""
    return len(numbers) == 6 and first_not_zero(p, numbers) != 0


def value_at(p, k, x):
    """What the conic k makes of the numbers x: 0 if the point is on it."""
    squares = k[0] * x[0] * x[0] + k[1] * x[1] * x[1] + k[2] * x[2] * x[2]
    return (squares + k[3] * x[1] * x[2] + k[4] * x[0] * x[2] + k[5] * x[0] * x[1]) % p


def matrix_of(k):
    """The matrix of the conic k."""
    return [2 * k[0], k[5], k[4], k[5], 2 * k[1], k[3], k[4], k[3], 2 * k[2]]


def points_of(p, k):
    """The points on the conic k, in order."""
    return [x for x in all_points(p) if value_at(p, k, x) == 0]


def those_on(p, triples, x):
    """Of points those that are on the line x, of lines those that the point x is on."""
    return [y for y in triples if dot(p, x, y) == 0]


def narrowed(p, conics, x):
    """Of all sums of multiples of the conics those with the point x on them, told by conics again."""
    amounts = [value_at(p, k, x) for k in conics]
    lead = first_not_zero(p, amounts)
    if lead == 0:
        return conics
    # Each but one has so much of that one taken away that it makes 0 of x.
    i = amounts.index(lead)
    return [mixed(p, lead, conics[j], -amounts[j], conics[i]) for j in range(len(conics)) if j != i]


def form(p, x):
    """The form of the point or line x."""
    if not (p in ODD_PRIMES and are_triples(p, [x])):
        return [-1]
    return [0] + form_of(p, x)


def number(p, x):
    """How many points are before the point x in order."""
    if not (p in ODD_PRIMES and are_triples(p, [x])):
        return [-1]
    return [0, all_points(p).index(form_of(p, x))]


def nth(p, i):
    """The point that has i before it; -2: there is none."""
    if p not in ODD_PRIMES:
        return [-1]
    if i > p * p + p:
        return [-2]
    return [0] + all_points(p)[i]


def on(p, x, l):
    """1 if the point x is on the line l, else 0."""
    if not (p in ODD_PRIMES and are_triples(p, [x, l])):
        return [-1]
    return [0, 1 if dot(p, x, l) == 0 else 0]


def join(p, x, y):
    """The line that two points are on, or the point that is on two lines; -2: they are the same."""
    if not (p in ODD_PRIMES and are_triples(p, [x, y])):
        return [-1]
    if are_same(p, x, y):
        return [-2]
    return [0] + form_of(p, joined(p, x, y))


def cross(p, a, b, c, d):
    """The number r for which c is s a + t b and d is r s a + t b, p if d is a; -2: they are not so on one line."""
    if not (p in ODD_PRIMES and are_triples(p, [a, b, c, d])):
        return [-1]
    if not (are_three_on_line(p, a, b, c) and determinant(p, a + b + d) == 0):
        return [-2]
    if are_same(p, a, d):
        return [0, p]
    of_c = weights(p, a, b, c)
    of_d = weights(p, a, b, d)
    return [0, of_d[0] * of_c[1] * inverse(p, of_d[1] * of_c[0]) % p]


def fourth(p, r, a, b, c):
    """The point d for which cross is r; -2: a, b, c are not three points on one line, or r is above p."""
    if not (p in ODD_PRIMES and are_triples(p, [a, b, c])):
        return [-1]
    if r > p or not are_three_on_line(p, a, b, c):
        return [-2]
    if r == p:
        return [0] + form_of(p, a)
    of_c = weights(p, a, b, c)
    return [0] + form_of(p, mixed(p, r * of_c[0], a, of_c[1], b))


def map_of(p, a, b, c, d, e, f, g, h):
    """The map that takes a, b, c, d to e, f, g, h; -2: three of a four are on one line."""
    if not (p in ODD_PRIMES and are_triples(p, [a, b, c, d, e, f, g, h])):
        return [-1]
    first = frame(p, a, b, c, d)
    second = frame(p, e, f, g, h)
    if determinant(p, first) == 0 or determinant(p, second) == 0:
        return [-2]
    return [0] + form_of(p, product(p, second, undone(p, first)))


def behind(p, m, n):
    """The map that does what n does, then what m does."""
    if not (p in ODD_PRIMES and is_map(p, m) and is_map(p, n)):
        return [-1]
    return [0] + form_of(p, product(p, m, n))


def back(p, m):
    """The map that undoes m."""
    if not (p in ODD_PRIMES and is_map(p, m)):
        return [-1]
    return [0] + form_of(p, undone(p, m))


def image(p, m, x):
    """The point that the map m takes the point x to."""
    if not (p in ODD_PRIMES and is_map(p, m) and are_triples(p, [x])):
        return [-1]
    return [0] + form_of(p, applied(p, m, x))


def carried(p, m, l):
    """The line on which the images of the line l's points are."""
    if not (p in ODD_PRIMES and is_map(p, m) and are_triples(p, [l])):
        return [-1]
    # A point gives 0 by l just when its image gives 0 by l times the inverse of m.
    return [0] + form_of(p, applied(p, transposed(undone(p, m)), l))


def order(p, m):
    """The least k above 0 such that m done k times leaves all points where they are."""
    if not (p in ODD_PRIMES and is_map(p, m)):
        return [-1]
    k = 1
    power = m
    while not leaves_all(p, power):
        power = product(p, m, power)
        k = k + 1
    return [0, k]


def fixed(p, m):
    """2 if all points stay, else 1 and the line whose points stay, or 0; then the lone points that stay, counted."""
    if not (p in ODD_PRIMES and is_map(p, m)):
        return [-1]
    if leaves_all(p, m):
        return [0, 2, 0]
    stay = [x for x in all_points(p) if are_same(p, applied(p, m, x), x)]
    line = line_that_stays(p, m)
    if line == []:
        return [0, 0] + counted(stay)
    return [0, 1] + line + counted([x for x in stay if dot(p, x, line) != 0])


def conic(p, a, b, c, d, e):
    """The one conic that five points are on; -2: there is more than one."""
    if not (p in ODD_PRIMES and are_triples(p, [a, b, c, d, e])):
        return [-1]
    conics = [[0] * i + [1] + [0] * (5 - i) for i in range(6)]
    for x in [a, b, c, d, e]:
        conics = narrowed(p, conics, x)
    if len(conics) > 1:
        return [-2]
    return [0] + form_of(p, conics[0])


def rank(p, k):
    """The rank of the conic k."""
    if not (p in ODD_PRIMES and is_conic(p, k)):
        return [-1]
    return [0, rank_of(p, matrix_of(k))]


def points(p, k):
    """How many points are on the conic k."""
    if not (p in ODD_PRIMES and is_conic(p, k)):
        return [-1]
    return [0, len(points_of(p, k))]


def polar(p, k, x):
    """The line that the matrix of the conic k makes of the point x; -3: the rank is not 3."""
    if not (p in ODD_PRIMES and is_conic(p, k) and are_triples(p, [x])):
        return [-1]
    if rank_of(p, matrix_of(k)) != 3:
        return [-3]
    return [0] + form_of(p, applied(p, matrix_of(k), x))


def pole(p, k, l):
    """The point whose polar the line l is; -3: the rank is not 3."""
    if not (p in ODD_PRIMES and is_conic(p, k) and are_triples(p, [l])):
        return [-1]
    if rank_of(p, matrix_of(k)) != 3:
        return [-3]
    return [0] + form_of(p, applied(p, undone(p, matrix_of(k)), l))


def crossed(p, k, l):
    """The points on both the conic k and the line l, counted."""
    if not (p in ODD_PRIMES and is_conic(p, k) and are_triples(p, [l])):
        return [-1]
    return [0] + counted(those_on(p, points_of(p, k), l))


def touched(p, k, x):
    """The lines through the point x with just one point in common with the conic k, counted; -3: rank is not 3."""
    if not (p in ODD_PRIMES and is_conic(p, k) and are_triples(p, [x])):
        return [-1]
    if rank_of(p, matrix_of(k)) != 3:
        return [-3]
    curve = points_of(p, k)
    lines = those_on(p, all_points(p), x)
    return [0] + counted([l for l in lines if len(those_on(p, curve, l)) == 1])


def shared(p, j, k):
    """The points on both conics, counted."""
    if not (p in ODD_PRIMES and is_conic(p, j) and is_conic(p, k)):
        return [-1]
    return [0] + counted([x for x in points_of(p, j) if value_at(p, k, x) == 0])


def moved(p, m, k):
    """The conic k with what the back of the map m makes of x, y, z put in for these."""
    if not (p in ODD_PRIMES and is_map(p, m) and is_conic(p, k)):
        return [-1]
    undoing = undone(p, m)
    s = product(p, transposed(undoing), product(p, matrix_of(k), undoing))
    # The matrix has a, b, c twofold and d, e, f once: what is twice the conic tells it without halving.
    return [0] + form_of(p, [s[0], s[4], s[8], 2 * s[5], 2 * s[2], 2 * s[1]])
