"""Whole lists of drawn calls, held against what Python's own floats tell."""

import math
import random
import unittest

from pullswarm.bodies import answers
from tests.helper import DueSwarm, ENERGY, begin, bits, body_of, get, joined, put, split, step, worth

EDGES = (0.0, -0.0, 1.0, -1.0, 0.5, 5e-324, -5e-324, 1e-310, 1.0 + 2.0 ** -52)


def any_double(drawn):
    value = worth(drawn.getrandbits(64))
    return value if math.isfinite(value) else any_double(drawn)


def ordinary(drawn):
    return drawn.uniform(-10.0, 10.0)


def whole(drawn):
    return float(drawn.randrange(-3, 4))


def clustered(drawn):
    return 5.0 + drawn.uniform(-1.0, 1.0) * 2.0 ** -drawn.randrange(50)


def edge(drawn):
    return drawn.choice(EDGES)


def spread(drawn):
    return drawn.uniform(-1.0, 1.0) * 2.0 ** drawn.randrange(-300, 300)


def near_zero(drawn):
    return drawn.uniform(-1.0, 1.0) * 2.0 ** drawn.randrange(-1074, -900)


def great(drawn):
    return drawn.uniform(-1.0, 1.0) * 2.0 ** drawn.randrange(300, 360)


PLAIN = (ordinary, whole, clustered)
WILD = (edge, spread, near_zero, great, any_double)


class Drawn:
    """Calls, and beside each what it's to be answered."""

    def __init__(self, drawn, far, soft):
        self.drawn = drawn
        self.swarm = DueSwarm(far, soft)
        self.calls = [begin(bits(far), bits(soft))]
        self.due = [[0]]

    def put(self, sorts):
        drawn = self.drawn
        weight = drawn.choice((1.0, drawn.uniform(0.1, 5.0)))
        if sorts[0] in WILD:
            weight = drawn.choice((weight, 5e-324, 2.0 ** drawn.randrange(-1074, 1000)))
        rest = [drawn.choice(sorts)(drawn) for number in range(6)]
        if self.swarm.bodies and drawn.randrange(5) == 0:
            rest[:3] = drawn.choice(self.swarm.bodies)[1:4]
        self.calls.append(put(body_of(weight, *rest)))
        self.due.append(self.swarm.put([weight] + rest))

    def step(self, n, dt):
        self.calls.append(step(n, bits(dt)))
        self.due.append(self.swarm.step(n, dt))

    def look(self):
        self.calls.append(ENERGY)
        self.due.append(self.swarm.energy())
        for i in range(len(self.swarm.bodies)):
            self.calls.append(get(i))
            self.due.append(self.swarm.get(i))


def drawn_line(drawn):
    far = drawn.choice((0.0, -0.0, 0.25, 0.5, 1.0, 4.0, 100.0, abs(any_double(drawn))))
    soft = drawn.choice((0.0, -0.0, 0.01, 1.0, 1e-300, 5e-324, abs(any_double(drawn))))
    line = Drawn(drawn, far, soft)
    sorts = (drawn.choice(PLAIN + WILD), edge)
    for number in range(drawn.choice((0, 1, 2, 3, 5, 8, 13))):
        line.put(sorts)
    for turn in range(drawn.randrange(1, 4)):
        dt = drawn.choice((0.0, -0.0, 0.01, -0.5, 1.0, 5e-324, any_double(drawn)))
        line.step(drawn.choice((0, 1, 1, 2, 3)), dt)
        line.look()
    return line


class DrawnTest(unittest.TestCase):
    def test_all_sorts_of_lines(self):
        first_of_steps = []
        for seed in range(600):
            line = drawn_line(random.Random(seed))
            self.assertEqual(split(answers(joined(*line.calls))), line.due, seed)
            first_of_steps.extend(due[0] for call, due in zip(line.calls, line.due) if call[0] == 3)
        # Both are there often enough to tell something.
        self.assertGreater(first_of_steps.count(0), 300)
        self.assertGreater(first_of_steps.count(-5), 150)

    def test_many_bodies(self):
        for seed, far in ((1, 0.0), (2, 0.25), (3, 1.0)):
            line = Drawn(random.Random(seed), far, 0.01)
            for number in range(40):
                line.put((ordinary,))
            line.step(3, 0.05)
            line.look()
            self.assertEqual(line.due[41], [0])
            self.assertEqual(split(answers(joined(*line.calls))), line.due)


if __name__ == "__main__":
    unittest.main()
