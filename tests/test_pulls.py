"""How bodies are pulled, beneath the steps."""

import math
import random
import unittest

from pullswarm.arithmetic import Failed, from_bits, to_bits
from pullswarm.pulls import Field, pulls_of
from tests.helper import Fails, bits, due_pulls


def pair(value):
    return from_bits(bits(value))


def handed(bodies, far, soft):
    """What Field and pulls_of take; a body is its weight and its place, as floats."""
    places = [[pair(value) for value in body[1:4]] for body in bodies]
    return pair(far), pair(soft), [pair(body[0]) for body in bodies], places


def pulls(bodies, far=0.0, soft=0.0):
    return [[to_bits(number) for number in pull] for pull in pulls_of(*handed(bodies, far, soft))]


def as_bits(*rows):
    return [[bits(value) for value in row] for row in rows]


def singly(bodies, i, others, soft=0.0):
    """The pull on body i along x alone, of other bodies one after another."""
    pull = 0.0
    for weight, x in [bodies[other][:2] for other in others]:
        d = x - bodies[i][1]
        s = d * d + soft
        pull = pull + weight / (s * math.sqrt(s)) * d
    return pull


class SinglesTest(unittest.TestCase):
    def test_no_bodies(self):
        self.assertEqual(pulls_of(*handed([], 1.0, 0.0)), [])

    def test_one_body_is_not_pulled_by_itself(self):
        self.assertEqual(pulls([(5.0, 1.0, 2.0, 3.0)]), as_bits((0.0, 0.0, 0.0)))

    def test_two_bodies(self):
        self.assertEqual(
            pulls([(4.0, 0.0, 0.0, 0.0), (8.0, 2.0, 0.0, 0.0)]), as_bits((2.0, 0.0, 0.0), (-1.0, 0.0, 0.0)),
        )

    def test_all_three_ways(self):
        # The way is 2, 3, 6, so s is 49.
        f = 49.0 / (49.0 * 7.0)
        self.assertEqual(
            pulls([(1.0, 1.0, 1.0, 1.0), (49.0, 3.0, 4.0, 7.0)])[0], as_bits((f * 2.0, f * 3.0, f * 6.0))[0],
        )

    def test_soft_is_added_to_the_square(self):
        # 3 and 1 make 4, whose root is 2.
        self.assertEqual(
            pulls([(8.0, 0.0, 0.0, 0.0), (16.0, 1.0, 1.0, 1.0)], soft=1.0),
            as_bits((2.0, 2.0, 2.0), (-1.0, -1.0, -1.0)),
        )

    def test_soft_minus_zero_is_as_zero(self):
        bodies = [(4.0, 0.0, 0.1, 0.0), (8.0, 2.0, 0.0, 0.3), (1.0, 0.3, 0.3, 0.3)]
        self.assertEqual(pulls(bodies, soft=-0.0), pulls(bodies, soft=0.0))

    def test_one_place(self):
        one_place = [(1.0, 1.0, 1.0, 1.0), (1.0, 1.0, 1.0, 1.0)]
        for soft in (0.0, -0.0):
            with self.assertRaises(Failed):
                pulls(one_place, soft=soft)
        self.assertEqual(pulls(one_place, soft=1.0), as_bits((0.0, 0.0, 0.0), (0.0, 0.0, 0.0)))

    def test_so_near_that_the_product_is_zero(self):
        # s is not 0, but s times its root is.
        with self.assertRaises(Failed):
            pulls([(1.0, 0.0, 0.0, 0.0), (1.0, 1e-120, 0.0, 0.0)])

    def test_single_ones_in_order(self):
        # The deepest cell has bodies 1, 2, 3 at one place; their pulls are added by their numbers. The others' pulls
        # fail here, so only body 0 is asked for.
        tiny = 2.0 ** -53
        for weights, expected in (((1.0, tiny, tiny), 1.0), ((tiny, tiny, 1.0), 1.0 + 2.0 ** -52)):
            bodies = [(1.0, 0.0, 0.0, 0.0)] + [(weight, 1.0, 0.0, 0.0) for weight in weights]
            pull = Field(*handed(bodies, 0.0, 0.0)).pull_on(0)
            self.assertEqual(to_bits(pull[0]), bits(expected))

    def test_parts_in_order(self):
        # Of body 0: first -1, then 1, then what would be lost beside either.
        bodies = [(1.0, 0.0, 0.0, 0.0), (1.0, -1.0, 0.0, 0.0), (1.0, 1.0, 0.0, 0.0), (2.0 ** -52, 2.0, 0.0, 0.0)]
        for far in (0.0, 0.001):
            self.assertEqual(pulls(bodies, far=far)[0][0], bits(2.0 ** -54))


class FarTest(unittest.TestCase):
    # The cell of the bodies 1 and 2 has side 5 and place 8: side side is 25, the square of 8 is 64.
    BODIES = [(1.0, 0.0, 0.0, 0.0), (1.0, 6.0, 0.0, 0.0), (1.0, 10.0, 0.0, 0.0)]
    EQUAL = 25.0 / 64.0
    AS_ONE = 2.0 / (64.0 * 8.0) * 8.0

    def test_below_is_far(self):
        for far in (math.nextafter(self.EQUAL, 1.0), 1.0, 1e300):
            self.assertEqual(pulls(self.BODIES, far)[0][0], bits(self.AS_ONE))

    def test_equal_is_not_below(self):
        self.assertEqual(pulls(self.BODIES, self.EQUAL)[0][0], bits(singly(self.BODIES, 0, (1, 2))))

    def test_above_is_not_far(self):
        for far in (math.nextafter(self.EQUAL, 0.0), 0.1, 5e-324, 0.0, -0.0):
            self.assertEqual(pulls(self.BODIES, far)[0][0], bits(singly(self.BODIES, 0, (1, 2))))

    def test_soft_does_not_count_for_far(self):
        as_one = 2.0 / ((64.0 + 36.0) * 10.0) * 8.0
        self.assertEqual(pulls(self.BODIES, math.nextafter(self.EQUAL, 1.0), 36.0)[0][0], bits(as_one))
        self.assertEqual(pulls(self.BODIES, self.EQUAL, 36.0)[0][0], bits(singly(self.BODIES, 0, (1, 2), 36.0)))

    def test_a_cell_that_a_body_is_in_goes_by_its_parts(self):
        # However great far is, bodies 1 and 2 see each other singly.
        got = pulls(self.BODIES, 1e300)
        self.assertEqual(got[1][0], bits(singly(self.BODIES, 1, (0, 2))))
        self.assertEqual(got[2][0], bits(singly(self.BODIES, 2, (0, 1))))

    def test_far_zero_is_all_singly(self):
        drawn = random.Random(21)
        bodies = [tuple([drawn.uniform(0.5, 2.0)] + [drawn.uniform(-9.0, 9.0), 0.0, 0.0]) for body in range(6)]
        order = sorted(range(6), key=lambda i: bodies[i][1])
        for far in (0.0, -0.0):
            got = pulls(bodies, far, 0.25)
            for i in range(6):
                others = [other for other in order if other != i]
                self.assertEqual(got[i][0], bits(singly(bodies, i, others, 0.25)))

    def test_a_cell_inside_one_that_is_not_far(self):
        # Seen from body 0, the cell of 1, 2, 3 is near, and the cell of 2 and 3 in it is far.
        bodies = [(1.0, 0.0, 0.0, 0.0), (1.0, 9.0, 0.0, 0.0), (1.0, 15.0, 0.0, 0.0), (1.0, 16.0, 0.0, 0.0)]
        inner = 15.5
        as_one = 2.0 / (inner * inner * math.sqrt(inner * inner)) * inner
        alone = 1.0 / (81.0 * 9.0) * 9.0
        self.assertEqual(pulls(bodies, 0.1)[0][0], bits(alone + as_one))

    def test_side_square_beyond_the_greatest(self):
        # As if the side were greater than it can be with these places: nobody asks for it inside the cell.
        field = Field(*handed(self.BODIES, 1.0, 0.0))
        field.first.side = pair(1e200)
        self.assertEqual([to_bits(number) for number in field.pull_on(0)], as_bits((self.AS_ONE, 0.0, 0.0))[0])
        field.first.parts[1].side = pair(1e200)
        self.assertEqual(to_bits(field.pull_on(1)[0]), bits(singly(self.BODIES, 1, (0, 2))))
        with self.assertRaises(Failed):
            field.pull_on(0)

    def test_far_times_the_square_beyond_the_greatest(self):
        with self.assertRaises(Failed):
            pulls(self.BODIES, 1e308)


class FailTest(unittest.TestCase):
    def fails(self, bodies, far=0.0, soft=0.0):
        with self.assertRaises(Failed):
            pulls(bodies, far, soft)

    def test_a_square(self):
        self.fails([(1.0, 0.0, 0.0, 0.0), (1.0, 1e155, 0.0, 0.0)])

    def test_a_square_plus_soft(self):
        self.fails([(1.0, 0.0, 0.0, 0.0), (1.0, 1e102, 0.0, 0.0)], soft=1.7976931348623157e308)

    def test_s_times_its_root(self):
        self.fails([(1.0, 0.0, 0.0, 0.0), (1.0, 1e103, 0.0, 0.0)])

    def test_a_quotient(self):
        self.fails([(1e300, 0.0, 0.0, 0.0), (1.0, 1e-10, 0.0, 0.0)])

    def test_a_sum_of_pulls(self):
        bodies = [(1.0, 0.0, 0.0, 0.0), (1e308, 0.0, 1.0, 0.0), (1e308, 0.0, -1.0, 0.0)]
        self.fails(bodies)


class AgainstFloatsTest(unittest.TestCase):
    def test_drawn(self):
        drawn = random.Random(22)
        came_out = 0
        for draw in range(200):
            spread = drawn.choice((1.0, 5.0, 1e-12, 1e-100, 1e90))
            far = drawn.choice((0.0, 0.05, 0.25, 1.0, 4.0))
            soft = drawn.choice((0.0, -0.0, 0.01, 5e-324))
            bodies = []
            for number in range(drawn.choice((1, 2, 3, 8, 16))):
                place = tuple(spread * drawn.choice((0.0, -0.0, drawn.gauss(0.0, 1.0))) for axis in range(3))
                bodies.append((drawn.uniform(0.1, 2.0),) + place)
            try:
                expected = as_bits(*due_pulls(bodies, far, soft))
            except Fails:
                with self.assertRaises(Failed):
                    pulls(bodies, far, soft)
                continue
            came_out += 1
            self.assertEqual(pulls(bodies, far, soft), expected)
        self.assertGreater(came_out, 100)


if __name__ == "__main__":
    unittest.main()
