"""Finite doubles as pairs (m, e) of whole numbers, worth m 2^e, and what is reckoned with them.

m has its sign and at most 53 bits (or is 2^53 or -2^53), and e isn't below LEAST_EXPONENT; else it is left open how
far m is shifted. Since a 0 has no sign of its own, each of the two zeros is always the one pair that is named here.
"""

from pullswarm.doubles import SIGN

PLUS_ZERO = (0, 0)
MINUS_ZERO = (0, -1)
HALF = (1, -1)
TWO = (1, 1)

# The lowest bit of the exponent; it is also the leading bit, which the bits of a double leave out.
LEADING = 0x10000000000000
MOST_BITS = 53
LEAST_EXPONENT = -1074
# No finite double comes up to 2 to this power.
BEYOND = 1024


class Failed(Exception):
    """What is told comes out as no finite number, or is a quotient by 0 or a root of one below 0."""


def from_bits(bits):
    m = bits % LEADING
    e = bits % SIGN // LEADING
    if e > 0:
        m += LEADING
        e -= 1
    if m == 0:
        return PLUS_ZERO if bits < SIGN else MINUS_ZERO
    return (m if bits < SIGN else -m, e + LEAST_EXPONENT)


def to_bits(x):
    if x[0] == 0:
        return SIGN if x == MINUS_ZERO else 0
    m = abs(x[0])
    e = max(x[1] + m.bit_length() - MOST_BITS, LEAST_EXPONENT)
    # Only 2^53 is shifted down, and it loses nothing.
    m = (m << (x[1] - e)) if x[1] >= e else (m >> (e - x[1]))
    # The leading bit, where there is one, makes the exponent 1 more.
    bits = (e - LEAST_EXPONENT) * LEADING + m
    return bits if x[0] > 0 else bits + SIGN


def rounded(m, e):
    """The double nearest to m 2^e, of two as near the even one; m isn't 0."""
    extra = m.bit_length() - MOST_BITS
    if e + extra < LEAST_EXPONENT:
        extra = LEAST_EXPONENT - e
    if extra > 0:
        # One bit more than is kept. A shift rounds down, below 0 too, so it's either this or one more.
        near = m >> (extra - 1)
        if near & 1 and (near & 2 or near << (extra - 1) != m):
            near += 1
        near >>= 1
        if near == 0:
            return PLUS_ZERO if m > 0 else MINUS_ZERO
        m = near
        e += extra
    if e + MOST_BITS >= BEYOND and e + m.bit_length() > BEYOND:
        raise Failed("no finite number")
    return (m, e)


def opposite(x):
    if x[0] == 0:
        return PLUS_ZERO if x == MINUS_ZERO else MINUS_ZERO
    return (-x[0], x[1])


def is_minus(x):
    return x[0] < 0 or x == MINUS_ZERO


def zero_of_signs(x, y):
    return MINUS_ZERO if is_minus(x) != is_minus(y) else PLUS_ZERO


def plus(x, y):
    shift = x[1] - y[1]
    if shift >= 0:
        m = (x[0] << shift) + y[0]
        e = y[1]
    else:
        m = x[0] + (y[0] << -shift)
        e = x[1]
    if m == 0:
        return MINUS_ZERO if x == MINUS_ZERO and y == MINUS_ZERO else PLUS_ZERO
    return rounded(m, e)


def minus(x, y):
    return plus(x, opposite(y))


def times(x, y):
    m = x[0] * y[0]
    if m == 0:
        return zero_of_signs(x, y)
    return rounded(m, x[1] + y[1])


def over(x, y):
    if y[0] == 0:
        raise Failed("a quotient by 0")
    if x[0] == 0:
        return zero_of_signs(x, y)
    shift = MOST_BITS + 3 + y[0].bit_length() - x[0].bit_length()
    dividend = x[0] << shift
    m = dividend // y[0] * 2
    # The last bit, far behind those that are kept, stands for all that is left.
    if dividend % y[0] != 0:
        m += 1
    return rounded(m, x[1] - y[1] - shift - 1)


def whole_root(n):
    """The greatest whole number whose square isn't above n; n has 107 or 108 bits."""
    # Newton's way, with no more bits in each row than can be right in it; the last row is at most 1 too great.
    a = (n >> 106) + 1
    a = (a << 1) + (n >> 103) // a
    a = (a << 2) + (n >> 98) // a
    a = (a << 6) + (n >> 88) // a
    a = (a << 12) + (n >> 68) // a
    a = (a << 26) + (n >> 28) // a
    return a - 1 if a * a > n else a


def root(x):
    if x[0] == 0:
        return x
    if x[0] < 0:
        raise Failed("a root of one below 0")
    shift = 108 - x[0].bit_length()
    # The exponent is to be halved.
    shift -= (x[1] - shift) % 2
    n = x[0] << shift
    m = whole_root(n)
    left = 1 if m * m < n else 0
    return rounded(2 * m + left, (x[1] - shift) // 2 - 1)


def is_below(x, y):
    shift = x[1] - y[1]
    if shift >= 0:
        return x[0] << shift < y[0]
    return x[0] < y[0] << -shift


def square(u):
    return plus(plus(times(u[0], u[0]), times(u[1], u[1])), times(u[2], u[2]))
