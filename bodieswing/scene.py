"""One object of the calls: its bodies, springs and walls, and what is asked of it."""

from bodieswing.bodies import BODY_NUMBERS, Body, point_place, with_number
from bodieswing.kinds import PLUS_ZERO, Failed, is_below
from bodieswing.measures import box_of, slow_ones
from bodieswing.springs import Spring
from bodieswing.steps import several_steps
from bodieswing.sums import ten_sums
from bodieswing.turns import QUARTER, made_one_long, turn_square

NO_ROOM = -1
NO_BODY = -1
OUT_OF_RANGE = -2
BAD_NUMBER = -3
SOMETHING_FAILS = -5

MOST_BODIES = 4096
MOST_SPRINGS = 8192
MOST_STEPS = 1000000
MOST_TOLD = 4096
FOUR = (1, 2)


def any_below_zero(numbers):
    return any([is_below(x, PLUS_ZERO) for x in numbers])


def is_usable_turn(kind, t):
    try:
        square = turn_square(kind, t)
    except Failed:
        return False
    return not is_below(square, QUARTER) and not is_below(FOUR, square)


def is_number_to_put(what):
    """Whether it is one of the place, the momentum, the spin or the force."""
    return (what >= 4 and what <= 6) or (what >= 11 and what < BODY_NUMBERS)


class Scene:
    """Bodies, springs and walls with numbers of one kind. What is refused changes nothing."""

    def __init__(self, kind):
        self.kind = kind
        self.bodies = []
        self.springs = []
        self.walls = None

    def read_numbers(self, row):
        """The numbers with these bits, None if one is not finite."""
        numbers = [self.kind.from_bits(bits) for bits in row]
        return None if None in numbers else numbers

    def all_bits(self, numbers):
        return [self.kind.to_bits(x) for x in numbers]

    def has_body(self, i):
        return 0 <= i and i < len(self.bodies)

    def has_bodies(self, first, n):
        return first >= 0 and n >= 0 and first + n <= len(self.bodies)

    def add_body(self, row):
        numbers = self.read_numbers(row)
        if numbers is None or any_below_zero(numbers[0:4]) or not is_usable_turn(self.kind, numbers[7:11]):
            return BAD_NUMBER
        if len(self.bodies) >= MOST_BODIES:
            return NO_ROOM
        body = Body(numbers)
        body.turn = made_one_long(self.kind, body.turn)
        self.bodies.append(body)
        return len(self.bodies) - 1

    def add_spring(self, i, j, row):
        if not self.has_body(i) or not self.has_body(j) or i == j:
            return OUT_OF_RANGE
        numbers = self.read_numbers(row)
        if numbers is None or any_below_zero(numbers[6:9]):
            return BAD_NUMBER
        if len(self.springs) >= MOST_SPRINGS:
            return NO_ROOM
        self.springs.append(Spring(i, j, numbers))
        return len(self.springs) - 1

    def set_walls(self, row):
        numbers = self.read_numbers(row)
        if numbers is None or any([is_below(numbers[k + 3], numbers[k]) for k in range(3)]):
            return BAD_NUMBER
        self.walls = tuple(numbers)
        return 0

    def step(self, n, bits):
        if n < 0 or n > MOST_STEPS:
            return OUT_OF_RANGE
        dt = self.kind.from_bits(bits)
        if dt is None:
            return BAD_NUMBER
        try:
            self.bodies = several_steps(self.kind, self.bodies, self.springs, self.walls, n, dt)
        except Failed:
            return SOMETHING_FAILS
        return 0

    def tell(self, first, n, what):
        """0 and the what-th number of n bodies, or a refusal, as a list."""
        if not self.has_bodies(first, n) or what < 0 or what >= BODY_NUMBERS:
            return [OUT_OF_RANGE]
        return [0] + self.all_bits([body.twenty()[what] for body in self.bodies[first:first + n]])

    def put(self, first, what, row):
        if not self.has_bodies(first, len(row)) or not is_number_to_put(what):
            return OUT_OF_RANGE
        numbers = self.read_numbers(row)
        if numbers is None:
            return BAD_NUMBER
        for k, x in enumerate(numbers):
            self.bodies[first + k] = with_number(self.bodies[first + k], what, x)
        return 0

    def sums(self):
        try:
            found = ten_sums(self.kind, self.bodies, self.springs)
        except Failed:
            return [SOMETHING_FAILS]
        return [0] + self.all_bits(found)

    def box(self):
        if len(self.bodies) == 0:
            return [NO_BODY]
        return [0] + self.all_bits(box_of(self.bodies))

    def slow(self, bits, most):
        """How many bodies are slow, and the numbers of the first of them."""
        if most < 0 or most > MOST_TOLD:
            return [OUT_OF_RANGE]
        limit = self.kind.from_bits(bits)
        if limit is None:
            return [BAD_NUMBER]
        try:
            found = slow_ones(self.kind, self.bodies, limit)
        except Failed:
            return [SOMETHING_FAILS]
        return [len(found)] + found[0:most]

    def points(self, first, n, row):
        """0 and where the point of each of n bodies is, or a refusal."""
        if not self.has_bodies(first, n):
            return [OUT_OF_RANGE]
        r = self.read_numbers(row)
        if r is None:
            return [BAD_NUMBER]
        found = []
        try:
            for body in self.bodies[first:first + n]:
                found.extend(point_place(self.kind, body, r))
        except Failed:
            return [SOMETHING_FAILS]
        return [0] + self.all_bits(found)

    def frame(self, first, n, other):
        """0 and place and turn of each of n bodies by the bits of the other kind, or a refusal."""
        if not self.has_bodies(first, n):
            return [OUT_OF_RANGE]
        found = []
        for body in self.bodies[first:first + n]:
            found.extend(body.place + body.turn)
        return [0] + [other.nearest_bits(x) for x in found]
