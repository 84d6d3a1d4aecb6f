"""The swarm beneath the calls: what it keeps, and what needs more bodies than a list of calls can put."""

import unittest

from pullswarm.swarm import Swarm
from tests.helper import (
    BELOW_ZERO, BODY, INFINITY, LEAST_NUMBER, MINUS_ZERO, NOT_FINITE, OTHER_BODY, PLUS_ZERO, bits, edge_bodies,
    with_number, wrong_bodies,
)

MOST = 4096


def swarm_of(bodies):
    swarm = Swarm()
    swarm.begin(bits(0.25), bits(0.5))
    for body in bodies:
        swarm.put(body)
    return swarm


def kept(swarm):
    return (swarm.far, swarm.soft, [list(body) for body in swarm.bodies])


class KeptTest(unittest.TestCase):
    def test_begin_keeps_far_and_soft(self):
        swarm = swarm_of([BODY])
        self.assertEqual(swarm.begin(bits(3.0), MINUS_ZERO), 0)
        self.assertEqual(kept(swarm), (bits(3.0), MINUS_ZERO, []))

    def test_a_refused_begin_changes_nothing(self):
        swarm = swarm_of([BODY, OTHER_BODY])
        before = kept(swarm)
        for number in NOT_FINITE + BELOW_ZERO:
            for far, soft in ((number, bits(1.0)), (bits(1.0), number), (number, number)):
                with self.subTest(far=far, soft=soft):
                    self.assertEqual(swarm.begin(far, soft), -3)
                    self.assertEqual(kept(swarm), before)

    def test_put_keeps_every_bit(self):
        bodies = edge_bodies()
        self.assertEqual(swarm_of(bodies).bodies, bodies)

    def test_a_refused_put_changes_nothing(self):
        swarm = swarm_of([BODY])
        before = kept(swarm)
        for body in wrong_bodies():
            with self.subTest(body=body):
                self.assertEqual(swarm.put(body), -3)
                self.assertEqual(kept(swarm), before)

    def test_set_changes_that_body_alone(self):
        for i in range(3):
            with self.subTest(i=i):
                swarm = swarm_of([BODY, BODY, BODY])
                self.assertEqual(swarm.set_body(i, OTHER_BODY), 0)
                expected = [BODY, BODY, BODY]
                expected[i] = OTHER_BODY
                self.assertEqual(swarm.bodies, expected)

    def test_a_refused_set_changes_nothing(self):
        swarm = swarm_of([BODY, BODY])
        before = kept(swarm)
        for i in (LEAST_NUMBER, -1, 2):
            self.assertEqual(swarm.set_body(i, OTHER_BODY), -2)
            self.assertEqual(kept(swarm), before)
        for body in wrong_bodies():
            self.assertEqual(swarm.set_body(1, body), -3)
            self.assertEqual(kept(swarm), before)

    def test_a_body_is_kept_as_a_copy(self):
        handed = list(BODY)
        swarm = swarm_of([handed, BODY])
        swarm.set_body(1, handed)
        handed[0] = INFINITY
        self.assertEqual(swarm.bodies, [BODY, BODY])


class FullTest(unittest.TestCase):
    def setUp(self):
        self.swarm = Swarm()
        self.swarm.begin(PLUS_ZERO, PLUS_ZERO)
        self.answered = [self.swarm.put(BODY) for number in range(MOST)]

    def test_4096_bodies_are_taken(self):
        self.assertEqual(self.answered, list(range(MOST)))

    def test_one_more_is_refused(self):
        before = kept(self.swarm)
        self.assertEqual(self.swarm.put(OTHER_BODY), -1)
        self.assertEqual(self.swarm.put(OTHER_BODY), -1)
        self.assertEqual(kept(self.swarm), before)

    def test_a_wrong_body_is_told_ahead_of_no_room(self):
        for body in wrong_bodies():
            with self.subTest(body=body):
                self.assertEqual(self.swarm.put(body), -3)

    def test_the_last_body_can_be_set(self):
        self.assertEqual(self.swarm.set_body(MOST - 1, OTHER_BODY), 0)
        self.assertEqual(self.swarm.get_body(MOST - 1), [0] + OTHER_BODY)
        self.assertEqual(self.swarm.get_body(MOST), [-2])
        self.assertEqual(self.swarm.set_body(MOST, OTHER_BODY), -2)
        self.assertEqual(self.swarm.set_body(MOST, with_number(BODY, 0, PLUS_ZERO)), -2)

    def test_begin_makes_room(self):
        self.assertEqual(self.swarm.begin(PLUS_ZERO, PLUS_ZERO), 0)
        self.assertEqual(self.swarm.put(BODY), 0)


if __name__ == "__main__":
    unittest.main()
