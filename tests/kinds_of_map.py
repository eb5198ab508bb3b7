"""A map of each kind for every p, with its order and the points that stay, as worked out by hand."""

# The powers of ROOT are all numbers but 0. The cubic x x x = x + CUBIC has no root modulo p, and the square
# x x = x + SQUARE has none either; their maps have the largest orders that such maps can have.
ROOT = {3: 2, 5: 2, 7: 3, 11: 2, 13: 2, 17: 3, 19: 2, 23: 5, 29: 2, 31: 3}
CUBIC = {3: 1, 5: 2, 7: 2, 11: 3, 13: 4, 17: 2, 19: 4, 23: 4, 29: 1, 31: 3}
SQUARE = {3: 1, 5: 3, 7: 4, 11: 3, 13: 11, 17: 7, 19: 5, 23: 4, 29: 15, 31: 7}


def kinds(p):
    """For each kind a map, its order, and what fixed answers behind the 0."""
    g, c, q = ROOT[p], CUBIC[p], SQUARE[p]
    found = {
        "all stay": ([1, 0, 0, 0, 1, 0, 0, 0, 1], 1, [2, 0]),
        "none stays": ([0, 0, c, 1, 0, 1, 0, 1, 0], p * p + p + 1, [0, 0]),
        "one, of a number and a square": ([0, q, 0, 1, 1, 0, 0, 0, 1], p * p - 1, [0, 1, 0, 0, 1]),
        "one, of three equal numbers": ([1, 1, 0, 0, 1, 1, 0, 0, 1], p, [0, 1, 1, 0, 0]),
        "two, of two equal numbers and one": ([1, 1, 0, 0, 1, 0, 0, 0, g], p * (p - 1), [0, 2, 0, 0, 1, 1, 0, 0]),
        "a line, of three equal numbers": ([1, 1, 0, 0, 1, 0, 0, 0, 1], p, [1, 0, 1, 0, 0]),
        "a line and one, of two equal numbers": ([1, 0, 0, 0, 1, 0, 0, 0, g], p - 1, [1, 0, 0, 1, 1, 0, 0, 1]),
        "a line and one, in two steps": ([p - 1, 0, 0, 0, 1, 0, 0, 0, 1], 2, [1, 1, 0, 0, 1, 1, 0, 0]),
    }
    if p > 3:
        three = [0, 3, 0, 0, 1, 0, 1, 0, 1, 0, 0]
        found["three, of three numbers"] = ([1, 0, 0, 0, g, 0, 0, 0, g * g % p], p - 1, three)
    return found
