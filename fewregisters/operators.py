"""What the operators do with two numbers of 64 bits with a sign."""

LEAST = -9223372036854775808
MOST = 9223372036854775807
ALL_BITS = 18446744073709551615
SHIFT_BITS = 63


def wrapped(number):
    """The number of 64 bits with a sign that has the same lowest 64 bits."""
    return ((number - LEAST) & ALL_BITS) + LEAST


def plus(y, z):
    total = y + z
    # Most sums need no wrapping, and to look first is faster.
    if LEAST <= total <= MOST:
        return total
    return wrapped(total)


def minus(y, z):
    rest = y - z
    if LEAST <= rest <= MOST:
        return rest
    return wrapped(rest)


def times(y, z):
    return wrapped(y * z)


def divided(y, z):
    if z == 0:
        return 0
    size = abs(y) // abs(z)
    return wrapped(size if (y < 0) == (z < 0) else -size)


def remainder(y, z):
    if z == 0:
        return y
    size = abs(y) % abs(z)
    return -size if y < 0 else size


def both(y, z):
    return y & z


def either(y, z):
    return y | z


def one_of_two(y, z):
    return y ^ z


def shifted_left(y, z):
    return wrapped(y << (z & SHIFT_BITS))


def shifted_right(y, z):
    return y >> (z & SHIFT_BITS)


def less(y, z):
    return 1 if y < z else 0


def equal(y, z):
    return 1 if y == z else 0


# The sign @ stands for the byte 37 here, as in signs.py.
OPERATORS = {
    "+": plus,
    "-": minus,
    "*": times,
    "/": divided,
    "@": remainder,
    "&": both,
    "|": either,
    "^": one_of_two,
    "<<": shifted_left,
    ">>": shifted_right,
    "<": less,
    "==": equal,
}
