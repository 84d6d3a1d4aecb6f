"""How bodies pull one another through the tree of their cells."""

from pullswarm.arithmetic import PLUS_ZERO, is_below, opposite, over, plus, root, square, times
from pullswarm.tree import first_cell


def way_to(place, back):
    """place - b, where back is the opposite of b."""
    return [plus(place[0], back[0]), plus(place[1], back[1]), plus(place[2], back[2])]


class Field:
    """What pulls: one body at least, in their tree."""

    def __init__(self, far, soft, weights, places):
        self.far = far
        self.soft = soft
        self.weights = weights
        self.places = places
        self.first = first_cell(weights, places)

    def pull_on(self, body):
        back = [opposite(number) for number in self.places[body]]
        pull = [PLUS_ZERO, PLUS_ZERO, PLUS_ZERO]
        waiting = [self.first]
        while waiting:
            cell = waiting.pop()
            if cell.singles:
                self.add_singles(pull, cell, body, back)
            elif body in cell.members or not self.add_if_far(pull, cell, back):
                # Reversed, since the one that's put last is taken first.
                waiting.extend(list(reversed(cell.parts)))
        return pull

    def add_singles(self, pull, cell, body, back):
        for single in cell.singles:
            if single != body:
                way = way_to(self.places[single], back)
                self.add_one(pull, self.weights[single], way, square(way))

    def add_if_far(self, pull, cell, back):
        """Adds the pull of the whole cell if it's far, and tells whether it is."""
        way = way_to(cell.place, back)
        way_square = square(way)
        is_far = is_below(times(cell.side, cell.side), times(self.far, way_square))
        if is_far:
            self.add_one(pull, cell.weight, way, way_square)
        return is_far

    def add_one(self, pull, weight, way, way_square):
        s = plus(way_square, self.soft)
        f = over(weight, times(s, root(s)))
        for axis in range(3):
            pull[axis] = plus(pull[axis], times(f, way[axis]))


def pulls_of(far, soft, weights, places):
    """Each body's pull."""
    if len(places) == 0:
        return []
    field = Field(far, soft, weights, places)
    return [field.pull_on(body) for body in range(len(places))]
