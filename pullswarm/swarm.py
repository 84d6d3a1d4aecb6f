"""One swarm of bodies. A body is its seven doubles: weight, where it is (three), how fast (three)."""

from pullswarm.doubles import is_above_zero, is_below_zero, is_finite

MOST_BODIES = 4096

DONE = 0
NO_ROOM = -1
NO_SUCH_BODY = -2
WRONG_DOUBLE = -3


def may_be_far_or_soft(bits):
    return is_finite(bits) and not is_below_zero(bits)


def may_be_body(body):
    return all([is_finite(bits) for bits in body]) and is_above_zero(body[0])


class Swarm:
    """Each call answers its number; a refusal is a number below 0, and leaves all as it was."""

    def __init__(self):
        self.far = 0
        self.soft = 0
        self.bodies = []

    def begin(self, far, soft):
        if not (may_be_far_or_soft(far) and may_be_far_or_soft(soft)):
            return WRONG_DOUBLE
        self.far = far
        self.soft = soft
        self.bodies = []
        return DONE

    def put(self, body):
        if not may_be_body(body):
            return WRONG_DOUBLE
        if len(self.bodies) >= MOST_BODIES:
            return NO_ROOM
        self.bodies.append(list(body))
        return len(self.bodies) - 1

    def set_body(self, i, body):
        # An index below 0 would count from the end of a Python list.
        if i < 0 or i >= len(self.bodies):
            return NO_SUCH_BODY
        if not may_be_body(body):
            return WRONG_DOUBLE
        self.bodies[i] = list(body)
        return DONE
