"""Sums, differences, products, quotients, roots and what is below: by their bits, and against Python's own floats."""

import math
import random
import unittest

from pullswarm.arithmetic import (
    Failed, from_bits, is_below, minus, opposite, over, plus, root, square, times, to_bits, whole_root,
)
from tests.helper import (
    BELOW_ZERO, Fails, GREATEST, MINUS_SMALLEST, MINUS_ZERO, PLUS_ZERO, SMALLEST, bits, finite,
    quotient, root_of, square_of, worth,
)

FAILS = "fails"
SMALLEST_WHOLE = bits(2.0 ** -1022)
ULP = 2.0 ** -52

EDGES = (
    PLUS_ZERO, SMALLEST, SMALLEST + 1, SMALLEST + 2, SMALLEST_WHOLE // 2, SMALLEST_WHOLE - 1, SMALLEST_WHOLE,
    SMALLEST_WHOLE + 1, bits(2.0 ** -538), bits(2.0 ** -537), bits(2.0 ** -54), bits(2.0 ** -53),
    bits(2.0 ** -53 + 2.0 ** -105), bits(ULP), bits(0.1), bits(0.5), bits(0.75), bits(1.0) - 1, bits(1.0),
    bits(1.0) + 1, bits(1.0) + 2, bits(1.5), bits(2.0) - 1, bits(2.0), bits(3.0), bits(7.0), bits(2.0 ** 53) - 1,
    bits(2.0 ** 53), bits(2.0 ** 511), bits(2.0 ** 512), bits(2.0 ** 969), bits(2.0 ** 970) - 1, bits(2.0 ** 970),
    bits(2.0 ** 1022), bits(2.0 ** 1023), GREATEST - 1, GREATEST,
)
BOTH_SIGNS = EDGES + tuple(number + MINUS_ZERO for number in EDGES)


def reckoned(reckon, *numbers):
    try:
        return to_bits(reckon(*[from_bits(number) for number in numbers]))
    except Failed:
        return FAILS


def due(reckon, *numbers):
    try:
        return bits(reckon(*[worth(number) for number in numbers]))
    except Fails:
        return FAILS


WITH_TWO = (
    (plus, lambda one, other: finite(one + other)),
    (minus, lambda one, other: finite(one - other)),
    (times, lambda one, other: finite(one * other)),
    (over, quotient),
)


def drawn_number(drawn):
    """A finite double's bits: any; of exponents near one another; of few bits, for ties; near 0; near the greatest."""
    sort = drawn.randrange(6)
    if sort == 0:
        number = drawn.getrandbits(64)
    elif sort == 1:
        number = bits(drawn.uniform(-4.0, 4.0))
    elif sort == 2:
        number = bits(math.ldexp(drawn.randrange(-8, 9), drawn.randrange(-60, 60)))
    elif sort == 3:
        number = drawn.getrandbits(1) * MINUS_ZERO + drawn.randrange(4 * SMALLEST_WHOLE)
    elif sort == 4:
        number = drawn.getrandbits(1) * MINUS_ZERO + GREATEST - drawn.getrandbits(drawn.randrange(60))
    else:
        number = bits(math.ldexp(2 ** 53 - drawn.randrange(4), drawn.randrange(-60, 60)))
    return number if math.isfinite(worth(number)) else drawn_number(drawn)


class BitsTest(unittest.TestCase):
    def test_there_and_back(self):
        drawn = random.Random(1)
        for number in BOTH_SIGNS + tuple(drawn_number(drawn) for draw in range(3000)):
            self.assertEqual(to_bits(from_bits(number)), number)

    def test_worth_of_pairs(self):
        for number in BOTH_SIGNS:
            pair = from_bits(number)
            self.assertEqual(math.ldexp(pair[0], pair[1]), worth(number))

    def test_however_far_a_pair_is_shifted(self):
        self.assertEqual(to_bits((1, 0)), bits(1.0))
        self.assertEqual(to_bits((2 ** 52, -52)), bits(1.0))
        self.assertEqual(to_bits((2 ** 53, -53)), bits(1.0))
        self.assertEqual(to_bits((-2 ** 53, -53)), bits(-1.0))
        self.assertEqual(to_bits((1, 1023)), bits(2.0 ** 1023))
        self.assertEqual(to_bits((1, -1074)), SMALLEST)
        self.assertEqual(to_bits((-3, -1074)), MINUS_ZERO + 3)
        self.assertEqual(to_bits((2 ** 53, -1074)), bits(2.0 ** -1021))


class SumTest(unittest.TestCase):
    def check(self, one, other, expected):
        """The sum in either order, and all of it with the opposite signs."""
        self.assertEqual(reckoned(plus, one, other), expected)
        self.assertEqual(reckoned(plus, other, one), expected)
        turned = FAILS if expected == FAILS else expected ^ MINUS_ZERO
        self.assertEqual(reckoned(plus, one ^ MINUS_ZERO, other ^ MINUS_ZERO), turned)
        self.assertEqual(reckoned(minus, one, other ^ MINUS_ZERO), expected)

    def test_ordinary(self):
        self.check(bits(1.5), bits(2.25), bits(3.75))
        self.check(bits(1.0), bits(-0.25), bits(0.75))
        self.check(bits(0.1), bits(0.2), 0x3FD3333333333334)

    def test_a_tie_goes_to_the_even_one(self):
        self.check(bits(1.0), bits(2.0 ** -53), bits(1.0))
        self.check(bits(1.0) + 1, bits(2.0 ** -53), bits(1.0) + 2)
        self.check(bits(1.0) + 2, bits(2.0 ** -53), bits(1.0) + 2)
        self.check(bits(2.0 ** 53), bits(1.0), bits(2.0 ** 53))
        self.check(bits(2.0 ** 53 + 2), bits(1.0), bits(2.0 ** 53 + 4))

    def test_beside_a_tie(self):
        self.check(bits(1.0), bits(2.0 ** -53) + 1, bits(1.0) + 1)
        self.check(bits(1.0) + 1, bits(2.0 ** -53) - 1, bits(1.0) + 1)
        self.check(bits(1.0), SMALLEST, bits(1.0))
        self.check(bits(1.0), MINUS_SMALLEST, bits(1.0))

    def test_a_carry_into_the_next_power_of_two(self):
        self.check(bits(2.0) - 1, bits(2.0 ** -53), bits(2.0))
        self.check(bits(2.0) - 1, bits(ULP), bits(2.0))

    def test_near_zero(self):
        self.check(SMALLEST, SMALLEST, SMALLEST + 1)
        self.check(SMALLEST_WHOLE - 1, SMALLEST, SMALLEST_WHOLE)
        self.check(SMALLEST_WHOLE, MINUS_SMALLEST, SMALLEST_WHOLE - 1)
        self.check(SMALLEST_WHOLE, SMALLEST_WHOLE - 1, 2 * SMALLEST_WHOLE - 1)
        self.check(SMALLEST_WHOLE + 1, SMALLEST_WHOLE ^ MINUS_ZERO, SMALLEST)

    def test_the_greatest_and_one_step_above(self):
        self.check(GREATEST, bits(2.0 ** 970) - 1, GREATEST)
        self.check(GREATEST, bits(2.0 ** 970), FAILS)
        self.check(GREATEST - 1, bits(2.0 ** 971), GREATEST)
        self.check(GREATEST, bits(2.0 ** 971), FAILS)
        self.check(GREATEST, GREATEST, FAILS)
        self.check(bits(2.0 ** 1023), bits(2.0 ** 1023), FAILS)
        self.check(GREATEST, bits(-2.0 ** 971), GREATEST - 1)

    def test_opposite_ones(self):
        for number in BOTH_SIGNS:
            with self.subTest(number=number):
                self.assertEqual(reckoned(minus, number, number), PLUS_ZERO)
                self.assertEqual(reckoned(plus, number, number ^ MINUS_ZERO), PLUS_ZERO)
                self.assertEqual(reckoned(opposite, number), number ^ MINUS_ZERO)

    def test_zeros(self):
        self.assertEqual(reckoned(plus, MINUS_ZERO, MINUS_ZERO), MINUS_ZERO)
        self.assertEqual(reckoned(plus, PLUS_ZERO, MINUS_ZERO), PLUS_ZERO)
        self.assertEqual(reckoned(plus, MINUS_ZERO, PLUS_ZERO), PLUS_ZERO)
        self.assertEqual(reckoned(plus, PLUS_ZERO, PLUS_ZERO), PLUS_ZERO)
        self.assertEqual(reckoned(minus, MINUS_ZERO, PLUS_ZERO), MINUS_ZERO)
        self.assertEqual(reckoned(minus, PLUS_ZERO, MINUS_ZERO), PLUS_ZERO)
        self.assertEqual(reckoned(minus, MINUS_ZERO, MINUS_ZERO), PLUS_ZERO)
        for number in BOTH_SIGNS[1:]:
            if number != MINUS_ZERO:
                for zero in (PLUS_ZERO, MINUS_ZERO):
                    self.assertEqual(reckoned(plus, number, zero), number)
                    self.assertEqual(reckoned(plus, zero, number), number)


class ProductTest(unittest.TestCase):
    def check(self, one, other, expected):
        """The product in either order, with each pair of signs."""
        turned = FAILS if expected == FAILS else expected ^ MINUS_ZERO
        for x, y in ((one, other), (other, one)):
            self.assertEqual(reckoned(times, x, y), expected)
            self.assertEqual(reckoned(times, x ^ MINUS_ZERO, y ^ MINUS_ZERO), expected)
            self.assertEqual(reckoned(times, x ^ MINUS_ZERO, y), turned)

    def test_ordinary(self):
        self.check(bits(1.5), bits(2.5), bits(3.75))
        self.check(bits(0.1), bits(0.1), 0x3F847AE147AE147C)

    def test_a_tie_goes_to_the_even_one(self):
        # Both products have 54 bits, of which the last is 1.
        self.check(bits(2.0 ** 27 + 1), bits(2.0 ** 26 + 1), bits(2.0 ** 53 + 2.0 ** 27 + 2.0 ** 26))
        self.check(bits(2.0 ** 27 + 1), bits(2.0 ** 26 + 3), bits(2.0 ** 53 + 3 * 2.0 ** 27 + 2.0 ** 26 + 4))

    def test_a_carry_into_the_next_power_of_two(self):
        self.check(bits(1.0) - 1, bits(1.0) + 1, bits(1.0))
        self.check(bits(2.0) - 1, bits(1.0) + 1, bits(2.0))

    def test_near_zero(self):
        self.check(SMALLEST, bits(0.5), PLUS_ZERO)
        self.check(SMALLEST, bits(0.5) + 1, SMALLEST)
        self.check(SMALLEST, bits(0.75), SMALLEST)
        self.check(SMALLEST + 1, bits(0.25), PLUS_ZERO)
        self.check(SMALLEST + 2, bits(0.5), SMALLEST + 1)
        self.check(SMALLEST + 4, bits(0.5), SMALLEST + 1)
        self.check(SMALLEST, SMALLEST, PLUS_ZERO)
        self.check(bits(2.0 ** -537), bits(2.0 ** -537), SMALLEST)
        self.check(bits(2.0 ** -537), bits(2.0 ** -538), PLUS_ZERO)
        self.check(SMALLEST_WHOLE, bits(1.0) - 1, SMALLEST_WHOLE)
        self.check(SMALLEST_WHOLE, bits(1.0) - 2, SMALLEST_WHOLE - 1)
        self.check(SMALLEST_WHOLE + 1, bits(0.5), SMALLEST_WHOLE // 2)

    def test_the_greatest_and_one_step_above(self):
        self.check(GREATEST, bits(1.0), GREATEST)
        self.check(GREATEST, bits(1.0) + 1, FAILS)
        self.check(GREATEST - 1, bits(1.0) + 1, FAILS)
        self.check(bits(2.0 ** 512), bits(2.0 ** 511), bits(2.0 ** 1023))
        self.check(bits(2.0 ** 512), bits(2.0 ** 512), FAILS)
        self.check(bits(2.0 ** 512), bits(2.0 ** 512) - 1, GREATEST)
        self.check(GREATEST, GREATEST, FAILS)

    def test_signs_of_zeros(self):
        for number in (PLUS_ZERO, SMALLEST, bits(1.0), GREATEST):
            self.check(PLUS_ZERO, number, PLUS_ZERO)


class QuotientTest(unittest.TestCase):
    def check(self, one, other, expected):
        """The quotient with each pair of signs."""
        turned = FAILS if expected == FAILS else expected ^ MINUS_ZERO
        self.assertEqual(reckoned(over, one, other), expected)
        self.assertEqual(reckoned(over, one ^ MINUS_ZERO, other ^ MINUS_ZERO), expected)
        self.assertEqual(reckoned(over, one ^ MINUS_ZERO, other), turned)
        self.assertEqual(reckoned(over, one, other ^ MINUS_ZERO), turned)

    def test_those_that_come_out_even(self):
        self.check(bits(6.0), bits(3.0), bits(2.0))
        self.check(bits(1.0), bits(8.0), bits(0.125))
        self.check(bits(2.0 ** 53 - 1), bits(1.0), bits(2.0 ** 53 - 1))

    def test_those_that_don_t(self):
        self.check(bits(1.0), bits(3.0), 0x3FD5555555555555)
        self.check(bits(2.0), bits(3.0), 0x3FE5555555555555)
        self.check(bits(1.0), bits(10.0), 0x3FB999999999999A)

    def test_a_carry_into_the_next_power_of_two(self):
        self.check(bits(1.0) - 1, bits(1.0), bits(1.0) - 1)
        self.check(bits(2.0) - 1, bits(2.0), bits(1.0) - 1)
        self.check(bits(1.0) + 1, bits(1.0) - 1, bits(1.0) + 2)

    def test_near_zero(self):
        self.check(SMALLEST, bits(2.0), PLUS_ZERO)
        self.check(SMALLEST + 2, bits(2.0), SMALLEST + 1)
        self.check(SMALLEST + 4, bits(2.0), SMALLEST + 1)
        self.check(SMALLEST, bits(2.0) - 1, SMALLEST)
        self.check(SMALLEST, bits(2.0) + 1, PLUS_ZERO)
        self.check(SMALLEST, GREATEST, PLUS_ZERO)
        self.check(SMALLEST_WHOLE, bits(1.0) + 1, SMALLEST_WHOLE - 1)
        self.check(2 * SMALLEST_WHOLE - 1, bits(2.0), SMALLEST_WHOLE)
        self.check(SMALLEST, SMALLEST, bits(1.0))
        self.check(SMALLEST_WHOLE, SMALLEST, bits(2.0 ** 52))

    def test_the_greatest_and_one_step_above(self):
        self.check(GREATEST, bits(1.0), GREATEST)
        self.check(GREATEST, bits(1.0) - 1, FAILS)
        self.check(bits(2.0 ** 1023), bits(0.5), FAILS)
        self.check(bits(2.0 ** 1023), bits(0.5) + 1, GREATEST - 1)
        self.check(bits(1.0), SMALLEST, FAILS)

    def test_by_zero(self):
        for number in BOTH_SIGNS:
            with self.subTest(number=number):
                self.assertEqual(reckoned(over, number, PLUS_ZERO), FAILS)
                self.assertEqual(reckoned(over, number, MINUS_ZERO), FAILS)

    def test_signs_of_zeros(self):
        for number in (SMALLEST, bits(1.0), GREATEST):
            self.check(PLUS_ZERO, number, PLUS_ZERO)


class RootTest(unittest.TestCase):
    def test_those_that_come_out_even(self):
        for value in (1.0, 4.0, 2.25, 2.0 ** -1074, 2.0 ** -1072, 2.0 ** 1022, (2.0 ** 26 - 1) ** 2):
            number = reckoned(root, bits(value))
            self.assertEqual(worth(number) * worth(number), value)
        self.assertEqual(reckoned(root, bits(9.0)), bits(3.0))
        self.assertEqual(reckoned(root, SMALLEST), bits(2.0 ** -537))

    def test_those_that_don_t(self):
        self.assertEqual(reckoned(root, bits(2.0)), 0x3FF6A09E667F3BCD)
        self.assertEqual(reckoned(root, bits(3.0)), 0x3FFBB67AE8584CAA)
        self.assertEqual(reckoned(root, bits(0.5)), 0x3FE6A09E667F3BCD)

    def test_beside_a_power_of_two(self):
        self.assertEqual(reckoned(root, bits(1.0) - 1), bits(1.0) - 1)
        self.assertEqual(reckoned(root, bits(1.0) + 1), bits(1.0))
        self.assertEqual(reckoned(root, bits(4.0) - 1), bits(2.0) - 1)
        self.assertEqual(reckoned(root, GREATEST), bits(2.0 ** 512) - 1)

    def test_zeros(self):
        self.assertEqual(reckoned(root, PLUS_ZERO), PLUS_ZERO)
        self.assertEqual(reckoned(root, MINUS_ZERO), MINUS_ZERO)

    def test_below_zero(self):
        for number in BELOW_ZERO:
            self.assertEqual(reckoned(root, number), FAILS)

    def test_whole_roots(self):
        drawn = random.Random(2)
        edges = [2 ** 106, 2 ** 106 + 1, 2 ** 107 - 1, 2 ** 107, 2 ** 108 - 1]
        for draw in range(1000):
            one = drawn.randrange(2 ** 53, 2 ** 54)
            edges.extend([one * one, one * one + 2 * one, drawn.randrange(2 ** 106, 2 ** 108)])
            if one > 2 ** 53:
                edges.append(one * one - 1)
        for n in edges:
            self.assertEqual(whole_root(n), math.isqrt(n))


class BelowTest(unittest.TestCase):
    def test_edges(self):
        for one in BOTH_SIGNS:
            for other in BOTH_SIGNS:
                with self.subTest(one=one, other=other):
                    self.assertEqual(is_below(from_bits(one), from_bits(other)), worth(one) < worth(other))

    def test_zeros_and_their_neighbours(self):
        near = [from_bits(number) for number in (MINUS_SMALLEST, MINUS_ZERO, PLUS_ZERO, SMALLEST)]
        worths = (-1, 0, 0, 1)
        for i in range(4):
            for j in range(4):
                self.assertEqual(is_below(near[i], near[j]), worths[i] < worths[j])

    def test_drawn(self):
        drawn = random.Random(3)
        for draw in range(3000):
            one = drawn_number(drawn)
            other = drawn.choice((drawn_number(drawn), one, one ^ MINUS_ZERO, one ^ 1))
            if math.isfinite(worth(other)):
                self.assertEqual(is_below(from_bits(one), from_bits(other)), worth(one) < worth(other))


class AgainstFloatsTest(unittest.TestCase):
    def check(self, one, other):
        for reckon, of_floats in WITH_TWO:
            told = (reckon.__name__, one, other)
            self.assertEqual(reckoned(reckon, one, other), due(of_floats, one, other), told)

    def check_root(self, one):
        self.assertEqual(reckoned(root, one), due(root_of, one), one)

    def test_edges(self):
        for one in BOTH_SIGNS:
            self.check_root(one)
            for other in BOTH_SIGNS:
                self.check(one, other)

    def test_drawn(self):
        drawn = random.Random(4)
        for draw in range(10000):
            one = drawn_number(drawn)
            self.check(one, drawn_number(drawn))
            self.check_root(one)

    def test_every_exponent(self):
        drawn = random.Random(5)
        for exponent in range(2047):
            one = exponent * SMALLEST_WHOLE + drawn.getrandbits(52)
            self.check_root(one)
            near = min(max(exponent + drawn.randrange(-60, 61), 0), 2046)
            for there in (near, 2046 - exponent):
                other = there * SMALLEST_WHOLE + drawn.getrandbits(52)
                self.check(one, other)
                self.check(one, other + MINUS_ZERO)

    def test_results_are_reckoned_with_further(self):
        # A result may be another pair than its bits would give.
        drawn = random.Random(6)
        for draw in range(1000):
            numbers = [drawn_number(drawn) for number in range(3)]
            pairs = [from_bits(number) for number in numbers]
            values = [worth(number) for number in numbers]
            for turn in range(12):
                i = drawn.randrange(len(pairs))
                j = drawn.randrange(len(pairs))
                self.assertEqual(is_below(pairs[i], pairs[j]), values[i] < values[j])
                reckon, of_floats = drawn.choice(WITH_TWO)
                try:
                    value = of_floats(values[i], values[j])
                except Fails:
                    with self.assertRaises(Failed):
                        reckon(pairs[i], pairs[j])
                    continue
                pair = reckon(pairs[i], pairs[j])
                self.assertEqual(to_bits(pair), bits(value), (numbers, turn))
                pairs.append(pair)
                values.append(value)
                if value >= 0.0:
                    self.assertEqual(to_bits(root(pair)), bits(math.sqrt(value)))


class SquareTest(unittest.TestCase):
    def test_order(self):
        one = from_bits(bits(1.0))
        # Its square is lost beside 1, but twice its square isn't.
        tiny = from_bits(bits(1.25 * 2.0 ** -27))
        self.assertEqual(to_bits(square([one, tiny, tiny])), bits(1.0))
        self.assertEqual(to_bits(square([tiny, one, tiny])), bits(1.0))
        self.assertEqual(to_bits(square([tiny, tiny, one])), bits(1.0) + 1)

    def test_drawn(self):
        drawn = random.Random(7)
        for draw in range(3000):
            numbers = [drawn_number(drawn) for axis in range(3)]
            self.assertEqual(
                reckoned(lambda *u: square(u), *numbers), due(lambda *u: square_of(u), *numbers), numbers,
            )


if __name__ == "__main__":
    unittest.main()
