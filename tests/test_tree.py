"""The tree of cells, beneath the steps."""

import random
import unittest

from pullswarm.arithmetic import Failed, MINUS_ZERO, PLUS_ZERO, from_bits, to_bits
from pullswarm.tree import first_cell, greatest_of, least_of, part_of, sum_of, weigh
from tests.helper import GREATEST, due_tree, bits, worth

MOST = worth(GREATEST)


def pair(value):
    return from_bits(bits(value))


def pairs(values):
    return [pair(value) for value in values]


def tree_of(bodies):
    """The first cell; a body is its weight and its place, as floats."""
    return first_cell([pair(body[0]) for body in bodies], [pairs(body[1:4]) for body in bodies])


def bits_of(numbers):
    return [to_bits(number) for number in numbers]


def shape(cell):
    """A cell as nested tuples: its single bodies, or its parts that aren't empty."""
    return tuple(cell.singles) if cell.singles else [shape(part) for part in cell.parts]


def same(test, cell, expected):
    """Holds a cell against one that floats tell."""
    if "singles" in expected:
        test.assertEqual(cell.singles, expected["singles"])
        return
    test.assertEqual(cell.singles, [])
    test.assertEqual(list(cell.members), expected["inside"])
    test.assertEqual(to_bits(cell.weight), bits(expected["weight"]))
    test.assertEqual(bits_of(cell.place), [bits(value) for value in expected["place"]])
    test.assertEqual(to_bits(cell.side), bits(expected["side"]))
    parts = [part for part in expected["parts"] if part is not None]
    test.assertEqual(len(cell.parts), len(parts))
    for part, its_expected in zip(cell.parts, parts):
        same(test, part, its_expected)


def levels_down(cell):
    """How many cells with one part each lead down to the first that has none, or more than one."""
    levels = 0
    while len(cell.parts) == 1:
        cell = cell.parts[0]
        levels += 1
    return levels, cell


class LeastAndGreatestTest(unittest.TestCase):
    def test_ordinary(self):
        numbers = pairs((3.0, -2.0, 7.5, -2.5, 7.0))
        self.assertEqual(least_of(numbers), pair(-2.5))
        self.assertEqual(greatest_of(numbers), pair(7.5))

    def test_of_equal_ones_the_first(self):
        for numbers in ([PLUS_ZERO, MINUS_ZERO], [MINUS_ZERO, PLUS_ZERO], [MINUS_ZERO, PLUS_ZERO, MINUS_ZERO]):
            self.assertEqual(least_of(numbers), numbers[0])
            self.assertEqual(greatest_of(numbers), numbers[0])
        self.assertEqual(least_of([pair(1.0), MINUS_ZERO, PLUS_ZERO]), MINUS_ZERO)
        self.assertEqual(greatest_of([pair(-1.0), MINUS_ZERO, PLUS_ZERO]), MINUS_ZERO)

    def test_zeros_of_both_signs_are_no_span(self):
        cell = tree_of([(1.0, 0.0, -0.0, 0.0), (1.0, -0.0, 0.0, 0.0)])
        self.assertEqual(to_bits(cell.side), bits(0.0))
        self.assertEqual(levels_down(cell)[0], 20)


class SumTest(unittest.TestCase):
    def test_from_the_first_on(self):
        self.assertEqual(to_bits(sum_of(pairs((1.0, 2.0 ** -53, 2.0 ** -53)))), bits(1.0))
        self.assertEqual(to_bits(sum_of(pairs((2.0 ** -53, 2.0 ** -53, 1.0)))), bits(1.0) + 1)

    def test_not_from_zero_on(self):
        self.assertEqual(sum_of([MINUS_ZERO]), MINUS_ZERO)
        self.assertEqual(sum_of([MINUS_ZERO, MINUS_ZERO]), MINUS_ZERO)


class PartTest(unittest.TestCase):
    def test_eight_parts(self):
        middle = pairs((1.0, 2.0, 3.0))
        for part in range(8):
            place = (1.5 if part & 1 else 0.5, 2.5 if part & 2 else 1.5, 3.5 if part & 4 else 2.5)
            self.assertEqual(part_of(pairs(place), middle), part)

    def test_equal_is_not_below(self):
        middle = pairs((1.0, 2.0, 3.0))
        self.assertEqual(part_of(middle, middle), 7)
        self.assertEqual(part_of(pairs((1.0, 1.9, 2.9)), middle), 1)
        self.assertEqual(part_of(pairs((0.9, 2.0, 2.9)), middle), 2)
        self.assertEqual(part_of(pairs((0.9, 1.9, 3.0)), middle), 4)

    def test_zeros(self):
        for zero in (PLUS_ZERO, MINUS_ZERO):
            for other in (PLUS_ZERO, MINUS_ZERO):
                self.assertEqual(part_of([zero] * 3, [other] * 3), 7)
        self.assertEqual(part_of(pairs((-5e-324, 0.0, 5e-324)), [MINUS_ZERO] * 3), 6)


class CellTest(unittest.TestCase):
    def test_one_body(self):
        cell = tree_of([(2.0, MOST, -MOST, 0.0)])
        self.assertEqual((cell.singles, cell.parts), ([0], []))

    def test_two_bodies(self):
        cell = tree_of([(1.0, 4.0, 0.0, 0.0), (3.0, 0.0, 0.0, 0.0)])
        self.assertEqual(shape(cell), [(1,), (0,)])
        self.assertEqual(to_bits(cell.side), bits(4.0))
        self.assertEqual(to_bits(cell.weight), bits(4.0))
        self.assertEqual(bits_of(cell.place), [bits(1.0), bits(0.0), bits(0.0)])

    def test_parts_are_in_order(self):
        corners = [(1.0, float(i & 1), float(i >> 1 & 1), float(i >> 2 & 1)) for i in range(8)]
        self.assertEqual(shape(tree_of(corners)), [(i,) for i in range(8)])
        self.assertEqual(shape(tree_of(corners[::-1])), [(7 - i,) for i in range(8)])

    def test_the_greatest_of_three_spans(self):
        for axis in range(3):
            bodies = [[1.0, 0.0, 0.0, 0.0], [1.0, 1.0, 1.0, 1.0]]
            bodies[1][1 + axis] = 6.0
            self.assertEqual(to_bits(tree_of(bodies).side), bits(6.0))

    def test_the_middle_is_equal_to_a_place(self):
        # The middle is 4; a body there is in the part that is more, with the one at 8.
        cell = tree_of([(1.0, 0.0, 0.0, 0.0), (1.0, 4.0, 0.0, 0.0), (1.0, 8.0, 0.0, 0.0)])
        self.assertEqual(shape(cell), [(0,), [(1,), (2,)]])
        self.assertEqual(to_bits(cell.parts[1].side), bits(4.0))

    def test_middles_of_parts(self):
        # First middle (8, 8, 8), then (4, 4, 4) for what is less, then (2, 4 + 2, 2) and so on.
        places = ((0.0, 0.0, 0.0), (16.0, 0.0, 0.0), (3.0, 5.0, 3.0), (3.0, 7.0, 1.0), (1.0, 7.0, 1.0))
        cell = tree_of([(1.0,) + place for place in places])
        self.assertEqual(shape(cell), [[(0,), [(4,), (3,), (2,)]], (1,)])
        self.assertEqual(to_bits(cell.parts[0].parts[1].side), bits(4.0))

    def test_one_place_comes_to_the_deepest_cell(self):
        for place in ((1.0, 2.0, 3.0), (0.0, -0.0, 0.0), (1e300, -1e300, 5e-324)):
            bodies = [(1.0,) + place, (2.0,) + place, (4.0,) + place]
            levels, deepest = levels_down(tree_of(bodies))
            self.assertEqual(levels, 20)
            self.assertEqual((deepest.singles, deepest.parts), ([0, 1, 2], []))

    def test_the_deepest_cell_has_its_bodies_by_their_numbers(self):
        # Bodies 0 and 2 are too near each other to be parted; 1 and 3 are far off on either side.
        near = 1.0 + 2.0 ** -40
        cell = tree_of([(1.0, near, 0.0, 0.0), (1.0, 0.0, 0.0, 0.0), (1.0, 1.0, 0.0, 0.0), (1.0, 2.0, 0.0, 0.0)])
        self.assertEqual((shape(cell.parts[0]), shape(cell.parts[1].parts[1])), ((1,), (3,)))
        levels, deepest = levels_down(cell.parts[1].parts[0])
        self.assertEqual((levels, deepest.singles), (18, [0, 2]))

    def test_nineteen_levels_below_is_still_parted(self):
        # The first side is 1; at level 19 it is 2^-19, and its middle parts the two.
        apart = [(1.0, 0.0, 0.0, 0.0), (1.0, 2.0 ** -20, 0.0, 0.0), (1.0, 1.0, 0.0, 0.0)]
        levels, deepest = levels_down(tree_of(apart).parts[0])
        self.assertEqual((levels, shape(deepest)), (18, [(0,), (1,)]))
        together = [(1.0, 0.0, 0.0, 0.0), (1.0, 2.0 ** -21, 0.0, 0.0), (1.0, 1.0, 0.0, 0.0)]
        levels, deepest = levels_down(tree_of(together).parts[0])
        self.assertEqual((levels, shape(deepest)), (19, (0, 1)))


class WeighTest(unittest.TestCase):
    def test_weights_go_by_parts(self):
        # In part 0 the tiny ones stand in a cell of their own, so that they count together.
        tiny = 2.0 ** -53
        bodies = [(1.0, 9.0, 0.0, 0.0), (tiny, 0.0, 0.0, 0.0), (tiny, 3.0, 0.0, 0.0)]
        cell = tree_of(bodies)
        self.assertEqual(shape(cell), [[(1,), (2,)], (0,)])
        self.assertEqual(to_bits(cell.weight), bits(1.0) + 1)

    def test_weights_of_parts_are_summed_in_order(self):
        tiny = 2.0 ** -53
        bodies = [(tiny, 8.0, 8.0, 0.0), (tiny, 8.0, 0.0, 0.0), (1.0, 0.0, 0.0, 0.0)]
        self.assertEqual(to_bits(tree_of(bodies).weight), bits(1.0))
        bodies = [(1.0, 8.0, 8.0, 0.0), (tiny, 8.0, 0.0, 0.0), (tiny, 0.0, 0.0, 0.0)]
        self.assertEqual(to_bits(tree_of(bodies).weight), bits(1.0) + 1)

    def test_single_bodies_count_one_after_another(self):
        # In the deepest cell are two tiny ones: behind 1 each is lost, together they would not be.
        tiny = 2.0 ** -53
        same_part = [(1.0, 0.0, 0.0, 0.0)] + [(tiny, 0.0, 0.0, 0.0)] * 2
        levels, deepest = levels_down(tree_of(same_part))
        self.assertEqual((levels, deepest.singles), (20, [0, 1, 2]))
        self.assertEqual(to_bits(tree_of(same_part).weight), bits(1.0))
        self.assertEqual(to_bits(tree_of(same_part[::-1]).weight), bits(1.0) + 1)

    def test_single_bodies_behind_another_part(self):
        # At level 19 the first part is the one of 1, the second the deepest cell with both tiny ones.
        tiny = 2.0 ** -53
        off = 2.0 ** -20
        bodies = [(1.0, 0.0, 0.0, 0.0), (tiny, off, 0.0, 0.0), (tiny, off, 0.0, 0.0), (5.0, 1.0, 0.0, 0.0)]
        levels, deepest = levels_down(tree_of(bodies).parts[0])
        self.assertEqual((levels, shape(deepest)), (18, [(0,), (1, 2)]))
        self.assertEqual(to_bits(deepest.weight), bits(1.0))

    def test_a_place_is_by_the_rounded_weights_and_places(self):
        bodies = [(0.1, 0.0, 0.1, 0.3), (0.2, 3.0, 0.7, 0.2), (0.7, 10.0, 0.9, 0.1)]
        cell = tree_of(bodies)
        self.assertEqual(shape(cell), [[(0,), (1,)], (2,)])
        for axis in range(3):
            inner = (0.1 * bodies[0][1 + axis] + 0.2 * bodies[1][1 + axis]) / (0.1 + 0.2)
            outer = ((0.1 + 0.2) * inner + 0.7 * bodies[2][1 + axis]) / ((0.1 + 0.2) + 0.7)
            self.assertEqual(to_bits(cell.parts[0].place[axis]), bits(inner))
            self.assertEqual(to_bits(cell.place[axis]), bits(outer))

    def test_places_are_summed_from_the_first_on(self):
        cell = tree_of([(1.0, -0.0, -0.0, 1.0), (1.0, -0.0, -0.0, 0.0)])
        self.assertEqual(bits_of(cell.place), [bits(-0.0), bits(-0.0), bits(0.5)])

    def test_a_cell_s_parts_alone_are_weighed(self):
        cell = tree_of([(1.0, 0.0, 0.0, 0.0), (1.0, 1.0, 1.0, 1.0)])
        weigh(cell, pairs((3.0, 1.0)), [pairs((4.0, 0.0, 8.0)), pairs((0.0, 4.0, 8.0))])
        self.assertEqual(to_bits(cell.weight), bits(4.0))
        self.assertEqual(bits_of(cell.place), [bits(3.0), bits(1.0), bits(8.0)])


class FailTest(unittest.TestCase):
    def fails(self, *bodies):
        with self.assertRaises(Failed):
            tree_of(bodies)

    def test_a_span(self):
        for axis in range(3):
            bodies = [[1.0, 0.0, 0.0, 0.0], [1.0, 0.0, 0.0, 0.0]]
            bodies[0][1 + axis] = -MOST
            bodies[1][1 + axis] = MOST
            self.fails(*bodies)

    def test_the_first_middle(self):
        # y + h is beyond the greatest, y - y isn't.
        self.fails((1.0, 0.0, MOST, 0.0), (1.0, 2.0 ** 1000, MOST, 0.0))
        self.fails((1.0, 0.0, 0.0, MOST), (1.0, 2.0 ** 1000, 0.0, MOST))
        self.fails((1.0, MOST, 0.0, 0.0), (1.0, MOST, 2.0 ** 1000, 0.0))

    def test_a_part_s_middle(self):
        # The first middle is the greatest itself; no body is in the parts whose middle is beyond it. The weights are
        # small, so that nothing else fails.
        high = MOST - 2.0 ** 1000
        tiny = 2.0 ** -1000
        for axis in range(3):
            bodies = [[tiny, 0.0, 0.0, 0.0], [tiny, 0.0, 0.0, 0.0]]
            bodies[0][1 + axis] = bodies[1][1 + axis] = high
            bodies[1][1 + (axis + 1) % 3] = 2.0 ** 1001
            self.fails(*bodies)

    def test_no_part_s_middle(self):
        # One step of 2^971 further in, q just isn't too much any more.
        tiny = 2.0 ** -1000
        inside = MOST - 2.0 ** 1000 - 2.0 ** 999
        cell = tree_of([(tiny, 0.0, inside, 0.0), (tiny, 2.0 ** 1001, inside, 0.0)])
        self.assertEqual(shape(cell), [(0,), (1,)])

    def test_no_part_s_middle_at_the_other_end(self):
        # No part's middle lies below the least place, so that nothing fails at this end.
        tiny = 2.0 ** -1000
        cell = tree_of([(tiny, 0.0, -MOST, 0.0), (tiny, 2.0 ** 1001, -MOST, 0.0)])
        self.assertEqual(shape(cell), [(0,), (1,)])

    def test_a_weight(self):
        self.fails((MOST, 0.0, 0.0, 0.0), (MOST, 1.0, 0.0, 0.0))
        self.fails((MOST, 0.0, 0.0, 0.0), (2.0 ** 970, 1.0, 0.0, 0.0))
        self.assertEqual(to_bits(tree_of([(MOST, 0.0, 0.0, 0.0), (2.0 ** 969, 1.0, 0.0, 0.0)]).weight), GREATEST)

    def test_a_weight_times_a_place(self):
        self.fails((MOST, 2.0, 0.0, 0.0), (1.0, 0.0, 0.0, 0.0))
        self.fails((1.0, 0.0, 0.0, 0.0), (MOST, 0.0, 2.0, 0.0))
        self.fails((1.0, 0.0, 0.0, 0.0), (MOST, 0.0, 0.0, 2.0))

    def test_a_sum_of_weights_times_places(self):
        self.fails((2.0 ** 1000, 2.0 ** 23, 0.0, 0.0), (2.0 ** 1000, 2.0 ** 23 + 1, 0.0, 0.0))

    def test_a_place(self):
        # As these weights are rounded, the place would come to lie above all bodies' places.
        self.fails((0.005, MOST, 0.0, 0.0), (0.006, MOST, 1.0, 0.0))
        cell = tree_of([(0.5, MOST, 0.0, 0.0), (0.25, MOST, 1.0, 0.0)])
        self.assertEqual(to_bits(cell.place[0]), GREATEST)

    def test_bodies_at_one_place_with_great_weights(self):
        self.fails((1e200, 1e200, 0.0, 0.0), (1.0, 1e200, 0.0, 0.0))


class AgainstFloatsTest(unittest.TestCase):
    def test_drawn(self):
        drawn = random.Random(11)
        for draw in range(150):
            spread = drawn.choice((1.0, 1e-12, 1e-300, 1e60, 1e-318))
            off = drawn.choice((0.0, 1.0, -1e3))
            bodies = []
            for number in range(drawn.choice((1, 2, 3, 5, 20))):
                place = tuple(off + spread * drawn.choice((0.0, -0.0, 1.0, drawn.gauss(0.0, 1.0))) for axis in range(3))
                bodies.append((drawn.uniform(0.1, 2.0),) + place)
            if drawn.randrange(3) == 0:
                bodies.append((0.3,) + bodies[0][1:])
            same(self, tree_of(bodies), due_tree(bodies))


if __name__ == "__main__":
    unittest.main()
