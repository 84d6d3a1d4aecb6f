"""The call energy, as it is handed in to pullswarm.bodies.answers."""

import math
import random
import unittest

from pullswarm.bodies import answers
from tests.helper import (
    BODY, ENERGY, Fails, GREATEST, OTHER_BODY, PLUS_ZERO, begin, bits, body_of, due_energy, get, joined, put, split,
    step, worth,
)

MOST = worth(GREATEST)
STILL = (0.0, 0.0, 0.0)


def energy(bodies, soft=0.0, far=0.25):
    """What the call is answered; a body is given as floats."""
    puts = [put(body_of(*body)) for body in bodies]
    return split(answers(joined(begin(bits(far), bits(soft)), *puts, ENERGY)))[-1]


class EnergyTest(unittest.TestCase):
    def test_no_bodies(self):
        self.assertEqual(energy([]), [0, PLUS_ZERO])

    def test_one_body(self):
        self.assertEqual(energy([(2.0, 5.0, 6.0, 7.0, 1.0, 2.0, 2.0)]), [0, bits(9.0)])
        square = (0.1 * 0.1 + 0.2 * 0.2) + 0.3 * 0.3
        self.assertEqual(energy([(3.0, 5.0, 6.0, 7.0, 0.1, 0.2, 0.3)]), [0, bits(1.5 * square)])

    def test_one_body_at_rest(self):
        for zero in (0.0, -0.0):
            self.assertEqual(energy([(2.0, 5.0, 6.0, 7.0, zero, zero, zero)]), [0, PLUS_ZERO])

    def test_half_of_the_weight_comes_first(self):
        # Half of the smallest weight is 0, and so nothing is left of the speed.
        self.assertEqual(energy([(5e-324, 0.0, 0.0, 0.0, 2.0, 0.0, 0.0)]), [0, PLUS_ZERO])
        self.assertEqual(energy([(MOST, 0.0, 0.0, 0.0, 1.0, 1.0, 0.0)]), [0, GREATEST])

    def test_two_bodies(self):
        bodies = [(3.0, 0.0, 0.0, 0.0) + STILL, (5.0, 2.0, 3.0, 6.0) + STILL]
        self.assertEqual(energy(bodies), [0, bits(-(15.0 / 7.0))])
        bodies = [(3.0, 0.0, 0.0, 0.0, 2.0, 0.0, 0.0), (5.0, 2.0, 3.0, 6.0, 0.0, 1.0, 0.0)]
        self.assertEqual(energy(bodies), [0, bits(6.0 + 2.5 - 15.0 / 7.0)])

    def test_soft(self):
        bodies = [(3.0, 0.0, 0.0, 0.0) + STILL, (5.0, 2.0, 2.0, 0.0) + STILL]
        self.assertEqual(energy(bodies, soft=1.0), [0, bits(-5.0)])

    def test_soft_minus_zero(self):
        bodies = [(3.0, 0.0, 0.0, 0.0) + STILL, (5.0, 2.0, 3.0, 6.0) + STILL]
        self.assertEqual(energy(bodies, soft=-0.0), energy(bodies))

    def test_speeds_are_added_in_order(self):
        # Half of 2^-26 times 2^-26 is 2^-53, which is lost beside 1, while twice so much isn't. The bodies are so far
        # from one another that the rest is lost.
        great = (2.0, 0.0, 0.0, 0.0, 1.0, 0.0, 0.0)
        small = [(1.0, 0.0, y, 0.0, 2.0 ** -26, 0.0, 0.0) for y in (1e150, -1e150)]
        self.assertEqual(energy([great] + small), [0, bits(1.0)])
        self.assertEqual(energy(small + [great]), [0, bits(1.0) + 1])

    def test_pairs_are_told_in_order(self):
        # Between the near ones it's 1; between each of them and the light one it's so little that it's lost behind 1,
        # while twice so much isn't.
        near = [(1.0, 0.0, 0.0, 0.0) + STILL, (1.0, 1.0, 0.0, 0.0) + STILL]
        light = (2.0 ** -43, 0.5, 1024.0, 0.0) + STILL
        self.assertEqual(energy(near + [light]), [0, bits(-1.0)])
        self.assertEqual(energy([light] + near), [0, bits(-1.0) + 1])

    def test_pairs_of_one_body_come_ahead_of_the_next_one_s(self):
        # 0 with 1 and with 2, both together, and 0 with 3 are each lost beside the 1 that it is between 1 and 2; all
        # three together are not.
        bodies = [
            (0.375 * 2.0 ** -13, 0.0, 2.0 ** 40, 0.0) + STILL, (1.0, 0.0, 0.0, 0.0) + STILL,
            (1.0, 1.0, 0.0, 0.0) + STILL, (2.0 ** -19, 2.0 ** 20, 2.0 ** 40, 0.0) + STILL,
        ]
        self.assertEqual(energy(bodies), [0, bits(-1.0) + 1])
        self.assertEqual(energy([bodies[0], bodies[1], bodies[2]]), [0, bits(-1.0)])

    def test_speeds_come_ahead_of_pairs(self):
        # 1 of the speeds, 1 between the two near ones; a tiny body's speed is lost if it's added to 1.
        bodies = [
            (2.0, 0.0, 0.0, 0.0, 1.0, 0.0, 0.0), (0.5, 1.0, 0.0, 0.0) + STILL,
            (2.0 ** -60, 1e100, 0.0, 0.0, 1.0, 0.0, 0.0),
        ]
        rest = 2.0 ** -59 / 1e100
        self.assertEqual(energy(bodies), [0, bits((1.0 - 1.0) - rest - 0.5 * 2.0 ** -60 / 1e100)])

    def test_far_does_not_count(self):
        bodies = [(1.0, x, 0.0, 0.0) + STILL for x in (0.0, 6.0, 10.0)]
        for far in (0.0, 1.0, MOST):
            self.assertEqual(energy(bodies, far=far), [0, bits(((0.0 - 1.0 / 6.0) - 1.0 / 10.0) - 1.0 / 4.0)])

    def test_drawn(self):
        drawn = random.Random(41)
        failed = 0
        for draw in range(200):
            spread = drawn.choice((1.0, 1e-160, 1e100, 1e152))
            soft = drawn.choice((0.0, -0.0, 0.01, 5e-324))
            bodies = []
            for number in range(drawn.choice((1, 2, 3, 6, 12))):
                rest = [spread * drawn.choice((0.0, -0.0, drawn.gauss(0.0, 1.0))) for axis in range(6)]
                bodies.append([drawn.choice((1.0, drawn.uniform(0.1, 2.0)))] + rest)
            try:
                expected = [0, bits(due_energy(bodies, soft))]
            except Fails:
                expected = [-5]
                failed += 1
            self.assertEqual(energy(bodies, soft), expected)
        self.assertTrue(0 < failed < 150)


class FailTest(unittest.TestCase):
    def test_one_place(self):
        bodies = [(1.0, 1.0, 1.0, 1.0) + STILL, (2.0, 1.0, 1.0, 1.0) + STILL]
        self.assertEqual(energy(bodies), [-5])
        self.assertEqual(energy(bodies, soft=-0.0), [-5])
        self.assertEqual(energy(bodies, soft=0.25), [0, bits(-4.0)])
        self.assertEqual(energy([(1.0, 0.0, -0.0, 0.0) + STILL, (1.0, -0.0, 0.0, 0.0) + STILL]), [-5])

    def test_so_near_that_the_square_is_zero(self):
        self.assertEqual(energy([(1.0, 0.0, 0.0, 0.0) + STILL, (1.0, 1e-170, 0.0, 0.0) + STILL]), [-5])

    def test_no_finite_number(self):
        for bodies in (
            [(1.0, 0.0, 0.0, 0.0, 1e155, 0.0, 0.0)],
            [(1e300, 0.0, 0.0, 0.0, 1e5, 0.0, 0.0)],
            [(MOST, 0.0, 0.0, 0.0, 1.25, 0.0, 0.0), (MOST, 0.0, 0.0, 1.0, 1.25, 0.0, 0.0)],
            [(MOST, 0.0, 0.0, 0.0) + STILL, (MOST, 0.0, 0.0, 1.0) + STILL],
            [(1e200, 0.0, 0.0, 0.0) + STILL, (1e200, 1e150, 0.0, 0.0) + STILL],
            [(1.0, -MOST, 0.0, 0.0) + STILL, (1.0, MOST, 0.0, 0.0) + STILL],
            [(1.0, 0.0, 0.0, 0.0) + STILL, (1.0, 1e155, 0.0, 0.0) + STILL],
        ):
            with self.subTest(bodies=bodies):
                self.assertEqual(energy(bodies), [-5])

    def test_the_square_plus_soft(self):
        bodies = [(1.0, 0.0, 0.0, 0.0) + STILL, (1.0, 1e154, 0.0, 0.0) + STILL]
        self.assertEqual(energy(bodies), [0, bits(-1.0 / math.sqrt(1e154 * 1e154))])
        self.assertEqual(energy(bodies, soft=MOST), [-5])

    def test_one_body_can_t_fail_by_its_place(self):
        self.assertEqual(energy([(1.0, MOST, -MOST, MOST) + STILL]), [0, PLUS_ZERO])


class StayTest(unittest.TestCase):
    def test_bodies_stay(self):
        calls = joined(begin(bits(0.25), bits(0.5)), put(BODY), put(OTHER_BODY), ENERGY, get(0), get(1), ENERGY)
        given = split(answers(calls))
        self.assertEqual(given[4:6], [[0] + BODY, [0] + OTHER_BODY])
        self.assertEqual(given[3], given[6])

    def test_bodies_stay_where_it_fails(self):
        calls = joined(begin(PLUS_ZERO, PLUS_ZERO), put(BODY), put(BODY), ENERGY, get(0), get(1), get(2))
        self.assertEqual(split(answers(calls))[3:], [[-5], [0] + BODY, [0] + BODY, [-2]])

    def test_behind_steps(self):
        bodies = [[worth(number) for number in body] for body in (BODY, OTHER_BODY)]
        puts = put(BODY) + put(OTHER_BODY)
        calls = joined(begin(bits(0.25), bits(0.5)), puts, step(3, bits(0.25)), get(0), get(1), ENERGY)
        given = split(answers(calls))
        moved = [[worth(number) for number in body[1:]] for body in given[4:6]]
        self.assertNotEqual(moved, bodies)
        self.assertEqual(given[6], [0, bits(due_energy(moved, 0.5))])


if __name__ == "__main__":
    unittest.main()
