"""One swarm of bodies. A body is its seven doubles: weight, where it is (three), how fast (three)."""

from pullswarm.arithmetic import Failed
from pullswarm.doubles import is_above_zero, is_below_zero, is_finite
from pullswarm.motion import bodies_after, energy_of

MOST_BODIES = 4096
MOST_STEPS = 1000000

DONE = 0
NO_ROOM = -1
NO_SUCH_BODY = -2
WRONG_COUNT = -2
WRONG_DOUBLE = -3
FAILED = -5


def may_be_far_or_soft(bits):
    return is_finite(bits) and not is_below_zero(bits)


def may_be_body(body):
    return all([is_finite(bits) for bits in body]) and is_above_zero(body[0])


class Swarm:
    """Each call answers a number, get_body and energy a list that begins with it.

    A refusal is a number below 0, and leaves all as it was.
    """

    def __init__(self):
        self.far = 0
        self.soft = 0
        self.bodies = []

    def begin(self, far, soft):
        if not (may_be_far_or_soft(far) and may_be_far_or_soft(soft)):
            return WRONG_DOUBLE
        self.far = far
        self.soft = soft
        self.bodies = []
        return DONE

    def put(self, body):
        if not may_be_body(body):
            return WRONG_DOUBLE
        if len(self.bodies) >= MOST_BODIES:
            return NO_ROOM
        self.bodies.append(list(body))
        return len(self.bodies) - 1

    def has_body(self, i):
        # An index below 0 would count from the end of a Python list.
        return 0 <= i < len(self.bodies)

    def set_body(self, i, body):
        if not self.has_body(i):
            return NO_SUCH_BODY
        if not may_be_body(body):
            return WRONG_DOUBLE
        self.bodies[i] = list(body)
        return DONE

    def get_body(self, i):
        if not self.has_body(i):
            return [NO_SUCH_BODY]
        return [DONE] + self.bodies[i]

    def step(self, n, dt):
        if n < 0 or n > MOST_STEPS:
            return WRONG_COUNT
        if not is_finite(dt):
            return WRONG_DOUBLE
        try:
            moved = bodies_after(self.far, self.soft, self.bodies, n, dt)
        except Failed:
            return FAILED
        self.bodies = moved
        return DONE

    def energy(self):
        try:
            bits = energy_of(self.far, self.soft, self.bodies)
        except Failed:
            return [FAILED]
        return [DONE, bits]
