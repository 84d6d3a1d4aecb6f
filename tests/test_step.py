"""The call step, as it is handed in to pullswarm.bodies.answers."""

import random
import unittest

from pullswarm.bodies import answers
from tests.helper import (
    BODY, DueSwarm, ENERGY, GREATEST, GREATEST_NUMBER, LEAST_NUMBER, MINUS_SMALLEST, MINUS_ZERO, NOT_FINITE,
    OTHER_BODY, PLUS_ZERO, SMALLEST, begin, bits, body_of, get, joined, put, set_body, split, step, worth,
)

MOST = worth(GREATEST)
MOST_STEPS = 1000000

BEGIN = begin(PLUS_ZERO, PLUS_ZERO)
# At one place, so that with soft 0 each step fails.
TOGETHER = (put(BODY), put(BODY))


def answered(*calls):
    return split(answers(joined(*calls)))


def after(bodies, *calls, far=0.0, soft=0.0):
    """What the calls are answered, one number each, and the bodies behind them, as floats."""
    puts = [put(body_of(*body)) for body in bodies]
    gets = [get(i) for i in range(len(bodies))]
    given = answered(begin(bits(far), bits(soft)), *puts, *calls, *gets)
    between = given[1 + len(puts):len(given) - len(gets)]
    found = [body[1:] for body in given[len(given) - len(gets):]]
    return [numbers[0] for numbers in between], found


def as_bits(bodies):
    return [body_of(*body) for body in bodies]


class NoStepTest(unittest.TestCase):
    def test_no_bodies(self):
        for n in (0, 1, 2, 1000, MOST_STEPS):
            for dt in (PLUS_ZERO, MINUS_ZERO, bits(0.5), GREATEST):
                self.assertEqual(answered(BEGIN, step(n, dt), get(0)), [[0], [0], [-2]])

    def test_n_zero_leaves_every_bit(self):
        bodies = [body_of(1.0, -0.0, 5e-324, 1.0, -0.0, MOST, -5e-324), BODY]
        for dt in (PLUS_ZERO, bits(1.0), GREATEST):
            given = answered(BEGIN, put(bodies[0]), put(bodies[1]), step(0, dt), get(0), get(1))
            self.assertEqual(given[3:], [[0], [0] + bodies[0], [0] + bodies[1]])

    def test_n_zero_where_a_step_would_fail(self):
        given = answered(BEGIN, *TOGETHER, step(0, bits(1.0)), step(1, bits(1.0)), get(1))
        self.assertEqual(given[3:], [[0], [-5], [0] + BODY])


class OneBodyTest(unittest.TestCase):
    def test_it_goes_on_as_it_goes(self):
        numbers, bodies = after([(3.0, 1.0, 2.0, 3.0, 0.5, -1.0, 0.0)], step(1, bits(0.5)))
        self.assertEqual((numbers, bodies), ([0], as_bits([(3.0, 1.25, 1.5, 3.0, 0.5, -1.0, 0.0)])))

    def test_each_step_is_rounded(self):
        expected = 0.0
        for number in range(10):
            expected = expected + 0.1 * 0.3
        numbers, bodies = after([(3.0, 0.0, 0.0, 0.0, 0.3, 0.0, 0.0)], step(10, bits(0.1)))
        self.assertEqual(bodies[0][1], bits(expected))

    def test_dt_below_zero(self):
        numbers, bodies = after([(3.0, 1.0, 2.0, 3.0, 0.5, -1.0, 0.0)], step(2, bits(-0.5)))
        self.assertEqual(bodies, as_bits([(3.0, 0.5, 3.0, 3.0, 0.5, -1.0, 0.0)]))

    def test_signs_of_zeros(self):
        # (-0) + k (+0) is -0 only if k is below 0 or -0; then p + dt v.
        for dt, place, speed in ((1.0, 0.0, 0.0), (-1.0, 0.0, -0.0), (0.0, 0.0, 0.0), (-0.0, 0.0, -0.0)):
            numbers, bodies = after([(1.0, -0.0, -0.0, -0.0, -0.0, -0.0, -0.0)], step(1, bits(dt)))
            self.assertEqual(bodies, as_bits([(1.0, place, place, place, speed, speed, speed)]), dt)
        numbers, bodies = after([(1.0, -0.0, 0.0, -0.0, -1.0, 1.0, 0.0)], step(1, MINUS_ZERO))
        self.assertEqual(bodies, as_bits([(1.0, 0.0, 0.0, -0.0, -1.0, 1.0, 0.0)]))

    def test_the_greatest_n_at_rest(self):
        body = (2.0, 1.0, -2.0, 1e300, 0.0, 0.0, 0.0)
        numbers, bodies = after([body], step(MOST_STEPS, bits(0.5)))
        self.assertEqual((numbers, bodies), ([0], as_bits([body])))

    def test_the_greatest_n_with_dt_zero(self):
        bodies = [(2.0, 1.0, -2.0, 3.0, 0.5, 0.25, 1.0), (1.0, 2.0, 2.0, 2.0, 1.0, -1.0, 0.5)]
        for dt in (PLUS_ZERO, MINUS_ZERO):
            self.assertEqual(after(bodies, step(MOST_STEPS, dt)), ([0], as_bits(bodies)))

    def test_the_greatest_n_with_a_way_that_is_lost_beside_the_place(self):
        body = (1.0, 2.0 ** 53, 0.0, 0.0, 0.5, 0.0, 0.0)
        self.assertEqual(after([body], step(MOST_STEPS, bits(1.0))), ([0], as_bits([body])))


class StepTest(unittest.TestCase):
    # They pull each other by 1 at distance 2, by 4 at distance 1.
    PAIR = [(4.0, 0.0, 0.0, 0.0, 0.0, 0.0, 0.0), (4.0, 2.0, 0.0, 0.0, 0.0, 0.0, 0.0)]

    def test_a_step(self):
        numbers, bodies = after(self.PAIR, step(1, bits(1.0)))
        self.assertEqual(numbers, [0])
        self.assertEqual(
            bodies, as_bits([(4.0, 0.5, 0.0, 0.0, 2.5, 0.0, 0.0), (4.0, 1.5, 0.0, 0.0, -2.5, 0.0, 0.0)]),
        )

    def test_a_step_along_each_way(self):
        for axis in range(3):
            bodies = [[4.0] + [0.0] * 6, [4.0] + [0.0] * 6]
            bodies[1][1 + axis] = 2.0
            numbers, found = after(bodies, step(1, bits(1.0)))
            bodies[0][1 + axis] = 0.5
            bodies[1][1 + axis] = 1.5
            bodies[0][4 + axis] = 2.5
            bodies[1][4 + axis] = -2.5
            self.assertEqual(found, as_bits(bodies))

    def test_dt_below_zero(self):
        numbers, bodies = after(self.PAIR, step(1, bits(-1.0)))
        self.assertEqual(
            bodies, as_bits([(4.0, 0.5, 0.0, 0.0, -2.5, 0.0, 0.0), (4.0, 1.5, 0.0, 0.0, 2.5, 0.0, 0.0)]),
        )

    def test_dt_zero(self):
        for dt in (PLUS_ZERO, MINUS_ZERO):
            for n in (1, 3):
                self.assertEqual(after(self.PAIR, step(n, dt)), ([0], as_bits(self.PAIR)))

    def test_the_smallest_dt_is_halved_to_zero(self):
        # k is 0, dt isn't: the speeds stay, and dt v is rounded up or lost.
        bodies = [(4.0, 0.0, 0.0, 0.0, 1.0, 0.5, 0.75), (4.0, 2.0, 0.0, 0.0, 0.0, 0.0, 0.0)]
        for dt, one, more in ((SMALLEST, 5e-324, 0.0), (MINUS_SMALLEST, -5e-324, 0.0)):
            numbers, found = after(bodies, step(1, dt))
            self.assertEqual(found[0], body_of(4.0, one, more, one, 1.0, 0.5, 0.75))

    def test_all_places_stay_while_pulls_are_told(self):
        # Were body 0 moved ahead of the pull on body 1, body 1 would be pulled otherwise.
        bodies = [(4.0, 0.0, 0.0, 0.0, 1.0, 0.0, 0.0), (4.0, 2.0, 0.0, 0.0, 1.0, 0.0, 0.0)]
        numbers, found = after(bodies, step(1, bits(1.0)))
        self.assertEqual(
            found, as_bits([(4.0, 1.5, 0.0, 0.0, 3.5, 0.0, 0.0), (4.0, 2.5, 0.0, 0.0, -1.5, 0.0, 0.0)]),
        )

    def test_several_steps_are_as_so_many_calls(self):
        drawn = random.Random(31)
        for draw in range(10):
            bodies = [
                [drawn.uniform(0.5, 2.0)] + [drawn.uniform(-3.0, 3.0) for number in range(6)] for body in range(5)
            ]
            dt = bits(drawn.uniform(-0.1, 0.1))
            at_once = after(bodies, step(4, dt), far=0.5, soft=0.01)
            one_by_one = after(bodies, *[step(1, dt)] * 4, far=0.5, soft=0.01)
            in_two = after(bodies, step(1, dt), step(3, dt), far=0.5, soft=0.01)
            self.assertEqual(at_once[1], one_by_one[1])
            self.assertEqual(at_once[1], in_two[1])
            self.assertNotEqual(at_once[1], after(bodies, step(3, dt), far=0.5, soft=0.01)[1])

    def test_far_is_asked_for(self):
        bodies = [(1.0, x, 0.0, 0.0, 0.0, 0.0, 0.0) for x in (0.0, 6.0, 10.0)]
        singly, as_one = [after(bodies, step(1, bits(0.5)), far=far)[1] for far in (25.0 / 64.0, 0.4)]
        # Of the first pull on body 0, and the way that it makes.
        self.assertEqual(singly[0][1], bits(0.5 * (0.25 * (1.0 / 216.0 * 6.0 + 1.0 / 1000.0 * 10.0))))
        self.assertEqual(as_one[0][1], bits(0.5 * (0.25 * (2.0 / 512.0 * 8.0))))

    def test_bodies_set_between_steps(self):
        swarm = DueSwarm(0.25, 0.5)
        values = [worth(number) for number in BODY]
        others = [worth(number) for number in OTHER_BODY]
        swarm.put(values)
        swarm.put(others)
        calls = [begin(bits(0.25), bits(0.5)), put(BODY), put(OTHER_BODY)]
        due = []
        for i in (0, 1):
            calls.extend([step(2, bits(0.125)), get(0), get(1), set_body(i, body_of(*values))])
            due.extend([swarm.step(2, 0.125), swarm.get(0), swarm.get(1), [0]])
            swarm.bodies[i] = list(values)
        calls.extend([step(1, bits(0.125)), get(0), get(1)])
        due.extend([swarm.step(1, 0.125), swarm.get(0), swarm.get(1)])
        self.assertEqual(answered(*calls)[3:], due)


class RefusedTest(unittest.TestCase):
    WRONG_N = (LEAST_NUMBER, -1000001, -2, -1, MOST_STEPS + 1, GREATEST_NUMBER)

    def test_n(self):
        for n in self.WRONG_N:
            for puts in ((), (put(BODY),), TOGETHER):
                given = answered(BEGIN, *puts, step(n, bits(0.5)))
                self.assertEqual(given[-1], [-2])

    def test_dt(self):
        for dt in NOT_FINITE:
            for n in (0, 1, MOST_STEPS):
                for puts in ((), (put(BODY),), TOGETHER):
                    given = answered(BEGIN, *puts, step(n, dt))
                    self.assertEqual(given[-1], [-3])

    def test_n_is_told_ahead_of_dt(self):
        for n in self.WRONG_N:
            for dt in NOT_FINITE:
                for puts in ((), TOGETHER):
                    self.assertEqual(answered(BEGIN, *puts, step(n, dt))[-1], [-2])

    def test_bodies_stay(self):
        for n, dt, number in ((-1, bits(0.5), -2), (MOST_STEPS + 1, NOT_FINITE[0], -2), (1, NOT_FINITE[4], -3)):
            given = answered(BEGIN, put(BODY), put(OTHER_BODY), step(n, dt), get(0), get(1), get(2))
            self.assertEqual(given[3:], [[number], [0] + BODY, [0] + OTHER_BODY, [-2]])


class FailTest(unittest.TestCase):
    def fails(self, bodies, n, dt, far=0.0, soft=0.0):
        """The step is answered -5 and the bodies are as they were ahead of it."""
        numbers, found = after(bodies, step(n, bits(dt)), far=far, soft=soft)
        self.assertEqual(numbers, [-5])
        self.assertEqual(found, as_bits(bodies))

    def test_one_place(self):
        for soft in (0.0, -0.0):
            for dt in (0.0, 0.5):
                self.fails([(1.0, 1.0, 1.0, 1.0, 0.0, 0.0, 0.0), (2.0, 1.0, 1.0, 1.0, 5.0, 0.0, 0.0)], 1, dt, soft=soft)
        bodies = [(1.0, 1.0, 1.0, 1.0, 0.0, 0.0, 0.0), (2.0, 1.0, 1.0, 1.0, 0.0, 0.0, 0.0)]
        self.assertEqual(after(bodies, step(3, bits(1.0)), soft=0.5), ([0], as_bits(bodies)))

    def test_one_place_by_worth(self):
        self.fails([(1.0, 0.0, -0.0, 0.0, 0.0, 0.0, 0.0), (2.0, -0.0, 0.0, 0.0, 0.0, 0.0, 0.0)], 1, 1.0)

    def test_the_second_pull(self):
        # Both come to 1 in the same step.
        bodies = [(8.0, 0.0, 0.0, 0.0, 0.0, 0.0, 0.0), (8.0, 2.0, 0.0, 0.0, 0.0, 0.0, 0.0)]
        self.fails(bodies, 1, 1.0)
        self.fails(bodies, 5, 1.0)

    def test_a_later_step(self):
        bodies = [(1.0, MOST * 0.5, 1.0, 1.0, MOST * 0.2, 0.0, 0.0)]
        self.assertEqual(after(bodies, step(2, bits(1.0)))[0], [0])
        self.fails(bodies, 3, 1.0)
        self.fails(bodies, MOST_STEPS, 1.0)

    def test_a_later_step_behind_one_that_did_not_fail(self):
        bodies = [(1.0, MOST * 0.5, 1.0, 1.0, MOST * 0.2, 0.0, 0.0)]
        numbers, once = after(bodies, step(1, bits(1.0)))
        self.assertEqual(after(bodies, step(1, bits(1.0)), step(2, bits(1.0))), ([0, -5], once))

    def test_a_place_one_step_above_the_greatest(self):
        self.fails([(1.0, MOST, 0.0, 0.0, 2.0 ** 970, 0.0, 0.0)], 1, 1.0)
        self.fails([(1.0, 0.0, -MOST, 0.0, 0.0, -2.0 ** 970, 0.0)], 1, 1.0)
        body = [(1.0, 0.0, 0.0, MOST, 0.0, 0.0, 2.0 ** 969)]
        self.assertEqual(after(body, step(1, bits(1.0))), ([0], as_bits(body)))

    def test_dt_v(self):
        self.fails([(1.0, 0.0, 0.0, 0.0, 0.0, 0.0, MOST)], 1, 2.0)
        self.assertEqual(after([(1.0, 0.0, 0.0, 0.0, 0.0, 0.0, MOST)], step(1, bits(1.0)))[0], [0])

    def test_k_a(self):
        bodies = [(2.0 ** 200, 0.0, 0.0, 0.0, 0.0, 0.0, 0.0), (1.0, 1.0, 0.0, 0.0, 0.0, 0.0, 0.0)]
        self.fails(bodies, 1, 2.0 ** 900)

    def test_a_cell_s_weight(self):
        # dt is 0 so that nothing fails but the tree.
        still = (0.0, 0.0, 0.0, 0.0, 0.0)
        self.fails([(MOST, 0.0) + still, (MOST, 1.0) + still], 1, 0.0)
        self.fails([(MOST, 0.0) + still, (2.0 ** 970, 1.0) + still], 1, 0.0)
        bodies = [(MOST, 0.0) + still, (2.0 ** 969, 1.0) + still]
        self.assertEqual(after(bodies, step(1, PLUS_ZERO)), ([0], as_bits(bodies)))

    def test_a_weight_times_a_place(self):
        still = (0.0, 0.0, 0.0, 0.0, 0.0)
        self.fails([(1.0, 0.0) + still, (MOST, 2.0) + still], 1, 0.0)
        bodies = [(1.0, 2.0) + still, (MOST, 0.0) + still]
        self.assertEqual(after(bodies, step(1, PLUS_ZERO)), ([0], as_bits(bodies)))

    def test_a_cell_s_place(self):
        still = (0.0, 0.0, 0.0, 0.0)
        self.fails([(0.005, MOST, 0.0) + still, (0.006, MOST, 1.0) + still], 1, 0.125)
        bodies = [(0.5, MOST, 0.0) + still, (0.25, MOST, 1.0) + still]
        self.assertEqual(after(bodies, step(1, bits(0.125)))[0], [0])

    def test_steps_go_on_behind_a_failed_one(self):
        bodies = [(4.0, 0.0, 0.0, 0.0, 0.0, 0.0, 0.0), (4.0, 2.0, 0.0, 0.0, 0.0, 0.0, 0.0)]
        numbers, found = after(bodies, step(1, bits(1e300)), step(1, bits(1.0)))
        self.assertEqual(numbers, [-5, 0])
        self.assertEqual(found, after(bodies, step(1, bits(1.0)))[1])


class BeginAgainTest(unittest.TestCase):
    def test_behind_steps(self):
        # At one place: with the old soft nothing fails, with the new one a step does.
        calls = [
            begin(bits(0.25), bits(0.5)), *TOGETHER, step(2, bits(0.5)), begin(bits(0.25), PLUS_ZERO), get(0),
            step(1, bits(0.5)), *TOGETHER, get(0), step(1, bits(0.5)), ENERGY,
        ]
        self.assertEqual(
            answered(*calls), [[0], [0], [1], [0], [0], [-2], [0], [0], [1], [0] + BODY, [-5], [-5]],
        )

    def test_the_new_far(self):
        bodies = [body_of(1.0, x, 0.0, 0.0, 0.0, 0.0, 0.0) for x in (0.0, 6.0, 10.0)]
        puts = [put(body) for body in bodies]
        steps = [step(1, bits(0.5)), get(0), get(1), get(2)]
        singly, as_one = [answered(begin(bits(far), PLUS_ZERO), *puts, *steps)[4:] for far in (0.0, 1.0)]
        self.assertNotEqual(singly, as_one)
        both = answered(begin(PLUS_ZERO, PLUS_ZERO), *puts, *steps, begin(bits(1.0), PLUS_ZERO), *puts, *steps)
        self.assertEqual((both[4:8], both[12:]), (singly, as_one))

    def test_a_refused_begin_leaves_far_and_soft(self):
        bodies = [body_of(1.0, x, 0.0, 0.0, 0.0, 0.0, 0.0) for x in (0.0, 6.0, 10.0)]
        puts = [put(body) for body in bodies]
        steps = [step(1, bits(0.5)), get(0), get(1), get(2), ENERGY]
        plain = answered(begin(bits(1.0), bits(0.5)), *puts, *steps)
        for wrong in (begin(PLUS_ZERO, NOT_FINITE[0]), begin(bits(-1.0), PLUS_ZERO)):
            given = answered(begin(bits(1.0), bits(0.5)), *puts, wrong, *steps)
            self.assertEqual(given[4], [-3])
            self.assertEqual(given[5:], plain[4:])


if __name__ == "__main__":
    unittest.main()
