"""Whole numbers of sixteen bits: held, wrapped, multiplied, and as bytes."""


def within(x, least, most):
    return least <= x <= most


def clamped(x, least, most):
    return max(least, min(x, most))


def held(x):
    return clamped(x, -32768, 32767)


def wrapped(x):
    """x modulo 2^16, with a sign."""
    return (x + 32768) % 65536 - 32768


def share(a, b):
    return wrapped(a * b // 32768)


def portion(a, b):
    return wrapped(a * b // 4096)


def size(x):
    return held(abs(x))


def sign(x):
    if x > 0:
        return 1
    if x < 0:
        return -1
    return 0


def product(a, b):
    total = sum([x * y for x, y in zip(a, b)])
    return held((total + 16384) // 32768)


def added(a, b):
    """Two rows' sums, number by number, held each."""
    return [held(x + y) for x, y in zip(a, b)]


def lessened(a, b):
    """Two rows' differences, number by number, held each."""
    return [held(x - y) for x, y in zip(a, b)]


def bytes_of(x, how_many):
    """The lowest byte first; of a number below 0 as it is modulo 256, or 2^16."""
    return [(x >> (8 * k)) & 255 for k in range(how_many)]
