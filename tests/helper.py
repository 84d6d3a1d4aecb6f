"""Doubles by their bits; calls in the form in which pullswarm.bodies.answers takes them; and what they are to answer.

What is to be answered is told by Python's own floats, one operation at a time. Python's sum and math.hypot are kept
away: they round once where the document rounds often.
"""

import math
import struct

PLUS_ZERO = 0x0000000000000000
MINUS_ZERO = 0x8000000000000000
SMALLEST = 0x0000000000000001
MINUS_SMALLEST = 0x8000000000000001
GREATEST = 0x7FEFFFFFFFFFFFFF
MINUS_GREATEST = 0xFFEFFFFFFFFFFFFF
INFINITY = 0x7FF0000000000000
MINUS_INFINITY = 0xFFF0000000000000

# The infinities, and of what is no number the least and the greatest bits of either sign and a plain one.
NOT_FINITE = (
    INFINITY,
    MINUS_INFINITY,
    INFINITY + 1,
    MINUS_INFINITY + 1,
    0x7FF8000000000000,
    0xFFF8000000000000,
    0x7FFFFFFFFFFFFFFF,
    0xFFFFFFFFFFFFFFFF,
)

LEAST_NUMBER = -2147483648
GREATEST_NUMBER = 2147483647


def bits(value):
    return struct.unpack("<Q", struct.pack("<d", value))[0]


def worth(number):
    return struct.unpack("<d", struct.pack("<Q", number))[0]


BELOW_ZERO = (MINUS_SMALLEST, bits(-0.5), bits(-1.0), MINUS_GREATEST)

BODY = [bits(value) for value in (2.0, 1.0, -1.5, 0.25, -3.0, 0.0, 8.0)]
OTHER_BODY = [bits(value) for value in (0.125, -7.0, 6.0, -5.0, 4.0, -3.0, 2.0)]

BEGIN = [0, bits(0.25), bits(0.5)]


def begin(far, soft):
    return [0, far, soft]


def put(body):
    return [1] + body


def set_body(i, body):
    return [2, i] + body


def step(n, dt):
    return [3, n, dt]


def get(i):
    return [4, i]


ENERGY = [5]


def body_of(*values):
    return [bits(value) for value in values]


def joined(*calls):
    return [number for call in calls for number in call]


def split(given):
    """What each call is answered, by the counts ahead of it."""
    answered = []
    at = 0
    while at < len(given):
        answered.append(given[at + 1:at + 1 + given[at]])
        at += 1 + given[at]
    if at != len(given):
        raise AssertionError(f"a count leads beyond the end: {given}")
    return answered


def with_number(body, place, number):
    changed = list(body)
    changed[place] = number
    return changed


def wrong_bodies():
    """Bodies that are to be refused, each for one number alone."""
    wrong = [with_number(BODY, place, number) for place in range(7) for number in NOT_FINITE]
    for weight in (PLUS_ZERO, MINUS_ZERO) + BELOW_ZERO:
        wrong.append(with_number(BODY, 0, weight))
    return wrong


def edge_bodies():
    """Bodies that are to be taken, each for one number alone at an edge."""
    edges = [with_number(BODY, 0, weight) for weight in (SMALLEST, GREATEST)]
    for place in range(1, 7):
        for number in (PLUS_ZERO, MINUS_ZERO, SMALLEST, MINUS_SMALLEST, GREATEST, MINUS_GREATEST):
            edges.append(with_number(BODY, place, number))
    return edges


class Fails(Exception):
    """A number that is due isn't finite."""


def finite(value):
    if not math.isfinite(value):
        raise Fails
    return value


def quotient(one, other):
    if other == 0.0:
        raise Fails
    return finite(one / other)


def root_of(value):
    if value < 0.0:
        raise Fails
    return finite(math.sqrt(value))


def square_of(way):
    first_two = finite(finite(way[0] * way[0]) + finite(way[1] * way[1]))
    return finite(first_two + finite(way[2] * way[2]))


def total_of(values):
    total = values[0]
    for value in values[1:]:
        total = finite(total + value)
    return total


def due_cell(bodies, inside, middle, half, level):
    """None for an empty cell; else a dict, with "singles" or with all that a parted cell has."""
    if not inside:
        return None
    if len(inside) == 1 or level == 20:
        return {"singles": inside}
    quarter = finite(half * 0.5)
    parts = []
    for part in range(8):
        more = [part % 2 == 1, part // 2 % 2 == 1, part // 4 == 1]
        its_middle = [finite(middle[axis] + quarter if more[axis] else middle[axis] - quarter) for axis in range(3)]
        chosen = [i for i in inside if [not bodies[i][1 + axis] < middle[axis] for axis in range(3)] == more]
        parts.append(due_cell(bodies, chosen, its_middle, quarter, level + 1))
    terms = []
    for part in parts:
        if part is not None and "singles" in part:
            terms.extend((bodies[i][0], bodies[i][1:4]) for i in part["singles"])
        elif part is not None:
            terms.append((part["weight"], part["place"]))
    weight = total_of([term[0] for term in terms])
    place = [
        quotient(total_of([finite(term[0] * term[1][axis]) for term in terms]), weight) for axis in range(3)
    ]
    return {"inside": inside, "parts": parts, "weight": weight, "place": place, "side": finite(half * 2.0)}


def due_tree(bodies):
    least = list(bodies[0][1:4])
    greatest = list(bodies[0][1:4])
    for body in bodies:
        for axis in range(3):
            if body[1 + axis] < least[axis]:
                least[axis] = body[1 + axis]
            if body[1 + axis] > greatest[axis]:
                greatest[axis] = body[1 + axis]
    span = 0.0
    for axis in range(3):
        difference = finite(greatest[axis] - least[axis])
        if difference > span:
            span = difference
    half = finite(span * 0.5)
    middle = [finite(value + half) for value in least]
    return due_cell(bodies, list(range(len(bodies))), middle, half, 0)


def add_due(pull, weight, way, soft):
    s = finite(square_of(way) + soft)
    f = quotient(weight, finite(s * root_of(s)))
    for axis in range(3):
        pull[axis] = finite(pull[axis] + finite(f * way[axis]))


def due_pull(pull, cell, i, bodies, far, soft):
    """Adds to the pull on body i what the cell pulls."""
    if cell is None:
        return
    place = bodies[i][1:4]
    if "singles" in cell:
        for other in cell["singles"]:
            if other != i:
                way = [finite(bodies[other][1 + axis] - place[axis]) for axis in range(3)]
                add_due(pull, bodies[other][0], way, soft)
        return
    if i not in cell["inside"]:
        way = [finite(cell["place"][axis] - place[axis]) for axis in range(3)]
        if finite(cell["side"] * cell["side"]) < finite(far * square_of(way)):
            add_due(pull, cell["weight"], way, soft)
            return
    for part in cell["parts"]:
        due_pull(pull, part, i, bodies, far, soft)


def due_pulls(bodies, far, soft):
    if not bodies:
        return []
    tree = due_tree(bodies)
    pulls = [[0.0, 0.0, 0.0] for body in bodies]
    for i in range(len(bodies)):
        due_pull(pulls[i], tree, i, bodies, far, soft)
    return pulls


def due_step(bodies, far, soft, dt):
    k = finite(dt * 0.5)
    bodies = [list(body) for body in bodies]
    for body, pull in zip(bodies, due_pulls(bodies, far, soft)):
        for axis in range(3):
            body[4 + axis] = finite(body[4 + axis] + finite(k * pull[axis]))
        for axis in range(3):
            body[1 + axis] = finite(body[1 + axis] + finite(dt * body[4 + axis]))
    for body, pull in zip(bodies, due_pulls(bodies, far, soft)):
        for axis in range(3):
            body[4 + axis] = finite(body[4 + axis] + finite(k * pull[axis]))
    return bodies


def due_energy(bodies, soft):
    energy = 0.0
    for body in bodies:
        energy = finite(energy + finite(finite(0.5 * body[0]) * square_of(body[4:7])))
    for i, one in enumerate(bodies):
        for other in bodies[i + 1:]:
            way = [finite(other[1 + axis] - one[1 + axis]) for axis in range(3)]
            distance = root_of(finite(square_of(way) + soft))
            energy = finite(energy - quotient(finite(one[0] * other[0]), distance))
    return energy


class DueSwarm:
    """What each call is to answer, for calls that are refused for no other cause than that they fail."""

    def __init__(self, far, soft):
        self.far = far
        self.soft = soft
        self.bodies = []

    def put(self, values):
        self.bodies.append(list(values))
        return [len(self.bodies) - 1]

    def step(self, n, dt):
        bodies = self.bodies
        try:
            for number in range(n):
                bodies = due_step(bodies, self.far, self.soft, dt)
        except Fails:
            return [-5]
        self.bodies = bodies
        return [0]

    def get(self, i):
        return [0] + body_of(*self.bodies[i])

    def energy(self):
        try:
            return [0, bits(due_energy(self.bodies, self.soft))]
        except Fails:
            return [-5]
