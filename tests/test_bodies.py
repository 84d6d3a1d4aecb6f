"""The calls as they are handed in to pullswarm.bodies.answers."""

import unittest

from pullswarm.bodies import answers
from tests.helper import (
    BEGIN, BELOW_ZERO, BODY, ENERGY, GREATEST, GREATEST_NUMBER, INFINITY, LEAST_NUMBER, MINUS_ZERO, NOT_FINITE,
    OTHER_BODY, PLUS_ZERO, SMALLEST, begin, bits, edge_bodies, get, joined, put, set_body, split, step, with_number,
    wrong_bodies,
)

WRONG_BODY = with_number(BODY, 3, INFINITY)

# Each call, answered and refused.
EVERY_CALL = joined(
    BEGIN, put(BODY), put(WRONG_BODY), put(OTHER_BODY), set_body(1, BODY), set_body(2, BODY), set_body(0, WRONG_BODY),
    step(2, bits(0.25)), step(-1, bits(0.25)), step(1, INFINITY), step(1, GREATEST), get(0), get(2), ENERGY,
    begin(INFINITY, PLUS_ZERO), begin(PLUS_ZERO, PLUS_ZERO), ENERGY, put(BODY), put(BODY), step(1, bits(0.25)), ENERGY,
    get(1),
)


def answered(*calls):
    """The one number that each call is answered; a count other than 1 before it is a failure."""
    given = answers(joined(*calls))
    if len(given) != 2 * len(calls) or any(count != 1 for count in given[0::2]):
        raise AssertionError(f"not a count of 1 and a number for each call: {given}")
    return given[1::2]


class UnchangingList(list):
    """A list that fails as soon as it is changed, even if it were to be changed back."""

    def refuse(self, *args, **kwargs):
        raise AssertionError("the list that was handed in is changed")

    append = extend = insert = pop = remove = clear = reverse = sort = refuse
    __setitem__ = __delitem__ = __iadd__ = __imul__ = refuse


class FormTest(unittest.TestCase):
    def test_one_call(self):
        self.assertEqual(answers(BEGIN), [1, 0])

    def test_a_count_before_each_call_s_numbers(self):
        calls = BEGIN + put(BODY) + put(WRONG_BODY) + put(OTHER_BODY) + set_body(1, BODY) + set_body(2, BODY) + BEGIN
        self.assertEqual(answers(calls), [1, 0, 1, 0, 1, -3, 1, 1, 1, 0, 1, -2, 1, 0])

    def test_four_hundred_calls(self):
        given = answers(BEGIN + put(BODY) * 399)
        self.assertEqual(given[0::2], [1] * 400)
        self.assertEqual(given[1::2], [0] + list(range(399)))

    def test_get_gives_eight_numbers_and_energy_two(self):
        calls = joined(BEGIN, put(BODY), get(0), get(1), ENERGY, step(0, PLUS_ZERO), get(-1))
        energy = bits(73.0)
        self.assertEqual(answers(calls), [1, 0, 1, 0, 8, 0] + BODY + [1, -2, 2, 0, energy, 1, 0, 1, -2])

    def test_the_numbers_of_every_call(self):
        counts = [len(numbers) for numbers in split(answers(EVERY_CALL))]
        self.assertEqual(counts, [1] * 11 + [8, 1, 2, 1, 1, 2, 1, 1, 1, 1, 8])
        firsts = [numbers[0] for numbers in split(answers(EVERY_CALL))]
        self.assertEqual(firsts, [0, 0, -3, 1, 0, -2, -3, 0, -2, -3, -5, 0, -2, 0, -3, 0, 0, 0, 1, -5, -5, 0])

    def test_kinds_of_what_is_given_back(self):
        given = answers(EVERY_CALL)
        self.assertIs(type(given), list)
        for number in given:
            self.assertIs(type(number), int)

    def test_what_is_handed_in_is_not_changed(self):
        calls = list(EVERY_CALL)
        answers(calls)
        self.assertEqual(calls, EVERY_CALL)

    def test_what_is_handed_in_is_not_changed_for_a_while(self):
        self.assertEqual(answers(UnchangingList(EVERY_CALL)), answers(EVERY_CALL))

    def test_nothing_is_kept_from_one_time_to_the_next(self):
        first = answers(EVERY_CALL)
        kept = list(first)
        first.append(7)
        answers(BEGIN + put(OTHER_BODY) + step(1, bits(3.0)))
        self.assertEqual(answers(EVERY_CALL), kept)


class BeginTest(unittest.TestCase):
    def test_finite_and_not_below_zero(self):
        for number in (PLUS_ZERO, SMALLEST, bits(0.25), bits(1.0), GREATEST):
            with self.subTest(number=number):
                self.assertEqual(answered(begin(number, bits(0.5))), [0])
                self.assertEqual(answered(begin(bits(0.5), number)), [0])

    def test_minus_zero_is_not_below_zero(self):
        self.assertEqual(answered(begin(MINUS_ZERO, bits(0.5))), [0])
        self.assertEqual(answered(begin(bits(0.5), MINUS_ZERO)), [0])
        self.assertEqual(answered(begin(MINUS_ZERO, MINUS_ZERO)), [0])

    def test_not_finite_or_below_zero(self):
        for number in NOT_FINITE + BELOW_ZERO:
            with self.subTest(number=number):
                self.assertEqual(answered(BEGIN, begin(number, bits(0.5))), [0, -3])
                self.assertEqual(answered(BEGIN, begin(bits(0.5), number)), [0, -3])
                self.assertEqual(answered(BEGIN, begin(number, number)), [0, -3])

    def test_begin_again_leaves_no_bodies(self):
        self.assertEqual(
            answered(BEGIN, put(BODY), put(BODY), BEGIN, set_body(0, BODY), put(BODY)),
            [0, 0, 1, 0, -2, 0],
        )

    def test_a_refused_begin_leaves_the_bodies(self):
        for number in NOT_FINITE + BELOW_ZERO:
            with self.subTest(number=number):
                self.assertEqual(
                    answered(BEGIN, put(BODY), put(BODY), begin(number, PLUS_ZERO), set_body(1, BODY), put(BODY)),
                    [0, 0, 1, -3, 0, 2],
                )


class PutTest(unittest.TestCase):
    def test_numbers_from_zero_on(self):
        self.assertEqual(answered(BEGIN, put(BODY), put(OTHER_BODY), put(BODY)), [0, 0, 1, 2])

    def test_refused_bodies(self):
        for body in wrong_bodies():
            with self.subTest(body=body):
                self.assertEqual(answered(BEGIN, put(body)), [0, -3])

    def test_bodies_at_the_edges_are_taken(self):
        for body in edge_bodies():
            with self.subTest(body=body):
                self.assertEqual(answered(BEGIN, put(body)), [0, 0])

    def test_the_smallest_weight_is_taken(self):
        self.assertEqual(answered(BEGIN, put([1] + BODY[1:])), [0, 0])

    def test_a_refused_put_makes_no_body(self):
        for body in wrong_bodies():
            with self.subTest(body=body):
                self.assertEqual(
                    answered(BEGIN, put(BODY), put(body), set_body(1, BODY), put(BODY)),
                    [0, 0, -3, -2, 1],
                )


class SetTest(unittest.TestCase):
    def test_a_body_that_is_there(self):
        self.assertEqual(
            answered(BEGIN, put(BODY), put(BODY), put(BODY), *[set_body(i, OTHER_BODY) for i in range(3)], put(BODY)),
            [0, 0, 1, 2, 0, 0, 0, 3],
        )

    def test_no_body_i(self):
        for i in (LEAST_NUMBER, -3, -2, -1, 2, 3, 4095, 4096, GREATEST_NUMBER):
            with self.subTest(i=i):
                self.assertEqual(answered(BEGIN, put(BODY), put(BODY), set_body(i, BODY)), [0, 0, 1, -2])

    def test_no_bodies_at_all(self):
        for i in (LEAST_NUMBER, -1, 0, 1, GREATEST_NUMBER):
            with self.subTest(i=i):
                self.assertEqual(answered(BEGIN, set_body(i, BODY)), [0, -2])

    def test_refused_bodies(self):
        for body in wrong_bodies():
            with self.subTest(body=body):
                self.assertEqual(answered(BEGIN, put(BODY), set_body(0, body)), [0, 0, -3])

    def test_bodies_at_the_edges_are_taken(self):
        for body in edge_bodies():
            with self.subTest(body=body):
                self.assertEqual(answered(BEGIN, put(BODY), set_body(0, body)), [0, 0, 0])

    def test_no_body_i_is_told_ahead_of_a_wrong_body(self):
        for i in (LEAST_NUMBER, -1, 1, GREATEST_NUMBER):
            for body in wrong_bodies():
                with self.subTest(i=i, body=body):
                    self.assertEqual(answered(BEGIN, put(BODY), set_body(i, body)), [0, 0, -2])

    def test_it_is_that_body_now_and_no_other_changes(self):
        for i in range(3):
            given = split(answers(joined(BEGIN, *[put(BODY)] * 3, set_body(i, OTHER_BODY), get(0), get(1), get(2))))
            expected = [[0] + BODY] * 3
            expected[i] = [0] + OTHER_BODY
            self.assertEqual(given[5:], expected)


class GetTest(unittest.TestCase):
    def test_every_bit_that_was_put(self):
        bodies = edge_bodies()
        given = split(answers(joined(BEGIN, *[put(body) for body in bodies], *[get(i) for i in range(len(bodies))])))
        self.assertEqual(given[1 + len(bodies):], [[0] + body for body in bodies])

    def test_every_bit_that_was_set(self):
        for body in edge_bodies():
            given = split(answers(joined(BEGIN, put(BODY), put(BODY), set_body(1, body), get(0), get(1))))
            self.assertEqual(given[4:], [[0] + BODY, [0] + body])

    def test_no_body_i(self):
        for i in (LEAST_NUMBER, -3, -2, -1, 2, 3, 4095, 4096, GREATEST_NUMBER):
            with self.subTest(i=i):
                self.assertEqual(answered(BEGIN, put(BODY), put(BODY), get(i)), [0, 0, 1, -2])

    def test_no_bodies_at_all(self):
        for i in (LEAST_NUMBER, -1, 0, 1, GREATEST_NUMBER):
            with self.subTest(i=i):
                self.assertEqual(answered(BEGIN, get(i)), [0, -2])

    def test_a_body_stays_as_it_is_gotten(self):
        given = split(answers(joined(BEGIN, put(BODY), get(0), get(0), put(OTHER_BODY), get(0), get(1))))
        self.assertEqual(given[2:], [[0] + BODY, [0] + BODY, [1], [0] + BODY, [0] + OTHER_BODY])


class RefusedTest(unittest.TestCase):
    def test_a_refused_call_leaves_every_bit(self):
        moved = split(answers(joined(BEGIN, put(BODY), put(OTHER_BODY), step(1, bits(0.25)), get(0), get(1), ENERGY)))
        refused = [(begin(number, PLUS_ZERO), -3) for number in NOT_FINITE + BELOW_ZERO]
        refused.extend((put(body), -3) for body in wrong_bodies())
        refused.extend((set_body(0, body), -3) for body in wrong_bodies())
        refused.extend((set_body(i, BODY), -2) for i in (LEAST_NUMBER, -1, 2, GREATEST_NUMBER))
        refused.extend((step(n, bits(0.25)), -2) for n in (LEAST_NUMBER, -1, 1000001, GREATEST_NUMBER))
        refused.extend((step(1, number), -3) for number in NOT_FINITE)
        refused.append((step(1, GREATEST), -5))
        for call, number in refused:
            with self.subTest(call=call):
                given = split(answers(joined(
                    BEGIN, put(BODY), put(OTHER_BODY), step(1, bits(0.25)), call, get(0), get(1), get(2), ENERGY,
                )))
                self.assertEqual(given[4], [number])
                self.assertEqual(given[5:], moved[4:6] + [[-2]] + moved[6:])


if __name__ == "__main__":
    unittest.main()
