"""Doubles by their bits, and calls in the form in which pullswarm.bodies.answers takes them."""

import struct

PLUS_ZERO = 0x0000000000000000
MINUS_ZERO = 0x8000000000000000
SMALLEST = 0x0000000000000001
MINUS_SMALLEST = 0x8000000000000001
GREATEST = 0x7FEFFFFFFFFFFFFF
MINUS_GREATEST = 0xFFEFFFFFFFFFFFFF
INFINITY = 0x7FF0000000000000
MINUS_INFINITY = 0xFFF0000000000000

# The infinities, and of what is no number the least and the greatest bits of either sign and a plain one.
NOT_FINITE = (
    INFINITY,
    MINUS_INFINITY,
    INFINITY + 1,
    MINUS_INFINITY + 1,
    0x7FF8000000000000,
    0xFFF8000000000000,
    0x7FFFFFFFFFFFFFFF,
    0xFFFFFFFFFFFFFFFF,
)

LEAST_NUMBER = -2147483648
GREATEST_NUMBER = 2147483647


def bits(value):
    return struct.unpack("<Q", struct.pack("<d", value))[0]


BELOW_ZERO = (MINUS_SMALLEST, bits(-0.5), bits(-1.0), MINUS_GREATEST)

BODY = [bits(value) for value in (2.0, 1.0, -1.5, 0.25, -3.0, 0.0, 8.0)]
OTHER_BODY = [bits(value) for value in (0.125, -7.0, 6.0, -5.0, 4.0, -3.0, 2.0)]

BEGIN = [0, bits(0.25), bits(0.5)]


def begin(far, soft):
    return [0, far, soft]


def put(body):
    return [1] + body


def set_body(i, body):
    return [2, i] + body


def with_number(body, place, number):
    changed = list(body)
    changed[place] = number
    return changed


def wrong_bodies():
    """Bodies that are to be refused, each for one number alone."""
    wrong = [with_number(BODY, place, number) for place in range(7) for number in NOT_FINITE]
    for weight in (PLUS_ZERO, MINUS_ZERO) + BELOW_ZERO:
        wrong.append(with_number(BODY, 0, weight))
    return wrong


def edge_bodies():
    """Bodies that are to be taken, each for one number alone at an edge."""
    edges = [with_number(BODY, 0, weight) for weight in (SMALLEST, GREATEST)]
    for place in range(1, 7):
        for number in (PLUS_ZERO, MINUS_ZERO, SMALLEST, MINUS_SMALLEST, GREATEST, MINUS_GREATEST):
            edges.append(with_number(BODY, place, number))
    return edges
