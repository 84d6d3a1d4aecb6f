"""The calls as they are handed in to pullswarm.bodies.answers."""

import unittest

from pullswarm.bodies import answers
from tests.helper import (
    BEGIN, BELOW_ZERO, BODY, GREATEST, GREATEST_NUMBER, INFINITY, LEAST_NUMBER, MINUS_ZERO,
    NOT_FINITE, OTHER_BODY, PLUS_ZERO, SMALLEST, begin, bits, edge_bodies, put, set_body, with_number, wrong_bodies,
)

WRONG_BODY = with_number(BODY, 3, INFINITY)


def answered(*calls):
    """The one number that each call is answered; a count other than 1 before it is a failure."""
    given = answers([number for call in calls for number in call])
    if len(given) != 2 * len(calls) or any(count != 1 for count in given[0::2]):
        raise AssertionError(f"not a count of 1 and a number for each call: {given}")
    return given[1::2]


class UnchangingList(list):
    """A list that fails as soon as it is changed, even if it were to be changed back."""

    def refuse(self, *args, **kwargs):
        raise AssertionError("the list that was handed in is changed")

    append = extend = insert = pop = remove = clear = reverse = sort = refuse
    __setitem__ = __delitem__ = __iadd__ = __imul__ = refuse


class FormTest(unittest.TestCase):
    def test_one_call(self):
        self.assertEqual(answers(BEGIN), [1, 0])

    def test_a_count_before_each_call_s_numbers(self):
        calls = BEGIN + put(BODY) + put(WRONG_BODY) + put(OTHER_BODY) + set_body(1, BODY) + set_body(2, BODY) + BEGIN
        self.assertEqual(answers(calls), [1, 0, 1, 0, 1, -3, 1, 1, 1, 0, 1, -2, 1, 0])

    def test_four_hundred_calls(self):
        given = answers(BEGIN + put(BODY) * 399)
        self.assertEqual(given[0::2], [1] * 400)
        self.assertEqual(given[1::2], [0] + list(range(399)))

    def test_kinds_of_what_is_given_back(self):
        given = answers(BEGIN + put(BODY) + set_body(0, BODY) + set_body(5, BODY) + put(WRONG_BODY))
        self.assertIs(type(given), list)
        for number in given:
            self.assertIs(type(number), int)

    def test_what_is_handed_in_is_not_changed(self):
        calls = BEGIN + put(BODY) + set_body(0, OTHER_BODY) + set_body(1, BODY) + put(WRONG_BODY) + BEGIN
        kept = list(calls)
        answers(calls)
        self.assertEqual(calls, kept)

    def test_what_is_handed_in_is_not_changed_for_a_while(self):
        calls = BEGIN + put(BODY) + set_body(0, OTHER_BODY) + set_body(1, BODY) + put(WRONG_BODY) + BEGIN
        self.assertEqual(answers(UnchangingList(calls)), answers(calls))

    def test_nothing_is_kept_from_one_time_to_the_next(self):
        calls = BEGIN + put(BODY) + put(BODY) + set_body(1, OTHER_BODY) + set_body(2, BODY)
        first = answers(calls)
        self.assertEqual(first, [1, 0, 1, 0, 1, 1, 1, 0, 1, -2])
        first.append(7)
        self.assertEqual(answers(calls), [1, 0, 1, 0, 1, 1, 1, 0, 1, -2])


class BeginTest(unittest.TestCase):
    def test_finite_and_not_below_zero(self):
        for number in (PLUS_ZERO, SMALLEST, bits(0.25), bits(1.0), GREATEST):
            with self.subTest(number=number):
                self.assertEqual(answered(begin(number, bits(0.5))), [0])
                self.assertEqual(answered(begin(bits(0.5), number)), [0])

    def test_minus_zero_is_not_below_zero(self):
        self.assertEqual(answered(begin(MINUS_ZERO, bits(0.5))), [0])
        self.assertEqual(answered(begin(bits(0.5), MINUS_ZERO)), [0])
        self.assertEqual(answered(begin(MINUS_ZERO, MINUS_ZERO)), [0])

    def test_not_finite_or_below_zero(self):
        for number in NOT_FINITE + BELOW_ZERO:
            with self.subTest(number=number):
                self.assertEqual(answered(BEGIN, begin(number, bits(0.5))), [0, -3])
                self.assertEqual(answered(BEGIN, begin(bits(0.5), number)), [0, -3])
                self.assertEqual(answered(BEGIN, begin(number, number)), [0, -3])

    def test_begin_again_leaves_no_bodies(self):
        self.assertEqual(
            answered(BEGIN, put(BODY), put(BODY), BEGIN, set_body(0, BODY), put(BODY)),
            [0, 0, 1, 0, -2, 0],
        )

    def test_a_refused_begin_leaves_the_bodies(self):
        for number in NOT_FINITE + BELOW_ZERO:
            with self.subTest(number=number):
                self.assertEqual(
                    answered(BEGIN, put(BODY), put(BODY), begin(number, PLUS_ZERO), set_body(1, BODY), put(BODY)),
                    [0, 0, 1, -3, 0, 2],
                )


class PutTest(unittest.TestCase):
    def test_numbers_from_zero_on(self):
        self.assertEqual(answered(BEGIN, put(BODY), put(OTHER_BODY), put(BODY)), [0, 0, 1, 2])

    def test_refused_bodies(self):
        for body in wrong_bodies():
            with self.subTest(body=body):
                self.assertEqual(answered(BEGIN, put(body)), [0, -3])

    def test_bodies_at_the_edges_are_taken(self):
        for body in edge_bodies():
            with self.subTest(body=body):
                self.assertEqual(answered(BEGIN, put(body)), [0, 0])

    def test_the_smallest_weight_is_taken(self):
        self.assertEqual(answered(BEGIN, put([1] + BODY[1:])), [0, 0])

    def test_a_refused_put_makes_no_body(self):
        for body in wrong_bodies():
            with self.subTest(body=body):
                self.assertEqual(
                    answered(BEGIN, put(BODY), put(body), set_body(1, BODY), put(BODY)),
                    [0, 0, -3, -2, 1],
                )


class SetTest(unittest.TestCase):
    def test_a_body_that_is_there(self):
        self.assertEqual(
            answered(BEGIN, put(BODY), put(BODY), put(BODY), *[set_body(i, OTHER_BODY) for i in range(3)], put(BODY)),
            [0, 0, 1, 2, 0, 0, 0, 3],
        )

    def test_no_body_i(self):
        for i in (LEAST_NUMBER, -3, -2, -1, 2, 3, 4095, 4096, GREATEST_NUMBER):
            with self.subTest(i=i):
                self.assertEqual(answered(BEGIN, put(BODY), put(BODY), set_body(i, BODY)), [0, 0, 1, -2])

    def test_no_bodies_at_all(self):
        for i in (LEAST_NUMBER, -1, 0, 1, GREATEST_NUMBER):
            with self.subTest(i=i):
                self.assertEqual(answered(BEGIN, set_body(i, BODY)), [0, -2])

    def test_refused_bodies(self):
        for body in wrong_bodies():
            with self.subTest(body=body):
                self.assertEqual(answered(BEGIN, put(BODY), set_body(0, body)), [0, 0, -3])

    def test_bodies_at_the_edges_are_taken(self):
        for body in edge_bodies():
            with self.subTest(body=body):
                self.assertEqual(answered(BEGIN, put(BODY), set_body(0, body)), [0, 0, 0])

    def test_no_body_i_is_told_ahead_of_a_wrong_body(self):
        for i in (LEAST_NUMBER, -1, 1, GREATEST_NUMBER):
            for body in wrong_bodies():
                with self.subTest(i=i, body=body):
                    self.assertEqual(answered(BEGIN, put(BODY), set_body(i, body)), [0, 0, -2])


if __name__ == "__main__":
    unittest.main()
