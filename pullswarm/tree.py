"""The tree of cells. Numbers are pairs of pullswarm.arithmetic; a place is a list of three; bodies go by index."""

from pullswarm.arithmetic import HALF, TWO, is_below, minus, over, plus, times

# A cell so many levels below the first isn't parted, whatever bodies it has.
DEEPEST = 20


class Cell:
    """A cell that isn't empty: it has its bodies singly, or else parts, and then all that is None here."""

    def __init__(self, bodies):
        self.singles = bodies
        self.parts = []
        self.members = None
        self.side = None
        self.weight = None
        self.place = None


def along(places, axis):
    return [place[axis] for place in places]


def least_of(numbers):
    least = numbers[0]
    for number in numbers:
        if is_below(number, least):
            least = number
    return least


def greatest_of(numbers):
    greatest = numbers[0]
    for number in numbers:
        if is_below(greatest, number):
            greatest = number
    return greatest


def sum_of(numbers):
    # From the first on: from +0 on, a sum of -0 alone would be +0.
    total = numbers[0]
    for number in numbers[1:]:
        total = plus(total, number)
    return total


def part_of(place, middle):
    part = 0
    if not is_below(place[0], middle[0]):
        part += 1
    if not is_below(place[1], middle[1]):
        part += 2
    if not is_below(place[2], middle[2]):
        part += 4
    return part


def bodies_by_part(places, bodies, middle):
    parts = [[] for part in range(8)]
    for body in bodies:
        parts[part_of(places[body], middle)].append(body)
    return parts


def middle_of_part(part, less, more):
    return [
        more[0] if part & 1 else less[0],
        more[1] if part & 2 else less[1],
        more[2] if part & 4 else less[2],
    ]


def weigh(cell, weights, places):
    """Gives a parted cell its weight and its place."""
    heavy = []
    there = []
    for part in cell.parts:
        if part.singles:
            heavy.extend([weights[body] for body in part.singles])
            there.extend([places[body] for body in part.singles])
        else:
            heavy.append(part.weight)
            there.append(part.place)
    cell.weight = sum_of(heavy)
    cell.place = []
    for axis in range(3):
        products = [times(weight, place[axis]) for weight, place in zip(heavy, there)]
        cell.place.append(over(sum_of(products), cell.weight))


def cell_of(weights, places, bodies, middle, half, level):
    """The cell that has these bodies, by their numbers."""
    cell = Cell(bodies)
    if len(bodies) == 1 or level == DEEPEST:
        return cell
    quarter = times(half, HALF)
    # Both are told of every axis, whether or not a body is there: either may fail.
    less = [minus(number, quarter) for number in middle]
    more = [plus(number, quarter) for number in middle]
    for part, inside in enumerate(bodies_by_part(places, bodies, middle)):
        if inside:
            its_middle = middle_of_part(part, less, more)
            cell.parts.append(cell_of(weights, places, inside, its_middle, quarter, level + 1))
    cell.singles = []
    cell.members = dict([(body, True) for body in bodies])
    cell.side = times(half, TWO)
    weigh(cell, weights, places)
    return cell


def first_cell(weights, places):
    """The cell of all bodies, of which there is one at least."""
    bodies = list(range(len(places)))
    if len(bodies) == 1:
        # Its h is +0, so that nothing told of it can fail, and nobody asks for its middle.
        return Cell(bodies)
    least = [least_of(along(places, axis)) for axis in range(3)]
    greatest = [greatest_of(along(places, axis)) for axis in range(3)]
    spans = [minus(greatest[axis], least[axis]) for axis in range(3)]
    half = times(greatest_of(spans), HALF)
    middle = [plus(number, half) for number in least]
    return cell_of(weights, places, bodies, middle, half, 0)
