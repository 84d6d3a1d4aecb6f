"""Steps of bodies, and their energy. Bodies and doubles are handed in and given back by their bits."""

from pullswarm.arithmetic import HALF, PLUS_ZERO, from_bits, minus, over, plus, root, square, times, to_bits
from pullswarm.pulls import pulls_of


def from_all_bits(row):
    return [from_bits(bits) for bits in row]


def to_all_bits(row):
    return [to_bits(number) for number in row]


def row_plus(row, factor, other):
    return [plus(row[axis], times(factor, other[axis])) for axis in range(3)]


def rows_plus(rows, factor, others):
    return [row_plus(row, factor, other) for row, other in zip(rows, others)]


class Motion:
    """The bodies of a swarm, as numbers to be reckoned with; the swarm's own stay as they are."""

    def __init__(self, far, soft, bodies):
        self.far = from_bits(far)
        self.soft = from_bits(soft)
        self.weights = [from_bits(body[0]) for body in bodies]
        self.places = [from_all_bits(body[1:4]) for body in bodies]
        self.speeds = [from_all_bits(body[4:7]) for body in bodies]

    def pulls_now(self):
        return pulls_of(self.far, self.soft, self.weights, self.places)

    def go(self, n, dt):
        """n steps, one at least."""
        k = times(dt, HALF)
        pulls = self.pulls_now()
        for step in range(n):
            places = self.places
            speeds = self.speeds
            self.speeds = rows_plus(speeds, k, pulls)
            self.places = rows_plus(places, dt, self.speeds)
            # The next step begins with these pulls too, since nothing moves between the two.
            pulls = self.pulls_now()
            self.speeds = rows_plus(self.speeds, k, pulls)
            if self.places == places and self.speeds == speeds:
                # All is as it was ahead of this step, so each step behind it leaves it so.
                break

    def bodies_now(self):
        return [
            to_all_bits([weight] + place + speed)
            for weight, place, speed in zip(self.weights, self.places, self.speeds)
        ]

    def energy_of_speeds(self):
        energy = PLUS_ZERO
        for weight, speed in zip(self.weights, self.speeds):
            energy = plus(energy, times(times(HALF, weight), square(speed)))
        return energy

    def energy_between(self, one, other):
        way = [minus(self.places[other][axis], self.places[one][axis]) for axis in range(3)]
        return over(times(self.weights[one], self.weights[other]), root(plus(square(way), self.soft)))

    def energy_now(self):
        energy = self.energy_of_speeds()
        for one in range(len(self.weights)):
            for other in range(one + 1, len(self.weights)):
                energy = minus(energy, self.energy_between(one, other))
        return energy


def bodies_after(far, soft, bodies, n, dt):
    """The bodies as they are behind n steps."""
    if n == 0:
        return bodies
    motion = Motion(far, soft, bodies)
    motion.go(n, from_bits(dt))
    return motion.bodies_now()


def energy_of(far, soft, bodies):
    return to_bits(Motion(far, soft, bodies).energy_now())
