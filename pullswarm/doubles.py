"""What is told of a double by its bits, a whole number from 0 to 2^64 - 1."""

SIGN = 0x8000000000000000
INFINITY = 0x7FF0000000000000


def is_finite(bits):
    # Behind the sign, the infinities and all that is no number have the greatest bits.
    return bits % SIGN < INFINITY


def is_below_zero(bits):
    """Asked of finite doubles alone."""
    # The sign by itself is -0, which isn't below +0.
    return bits > SIGN


def is_above_zero(bits):
    """Asked of finite doubles alone."""
    return 0 < bits < SIGN
