"""A body, how it moves, and its points."""

from bodieswing.turns import turned, turned_back
from bodieswing.vectors import added, cross, each_times, scaled

BODY_NUMBERS = 20


class Body:
    """A body, made of its twenty numbers."""

    def __init__(self, numbers):
        self.by_weight = numbers[0]
        self.by_moment = tuple(numbers[1:4])
        self.place = tuple(numbers[4:7])
        self.turn = tuple(numbers[7:11])
        self.momentum = tuple(numbers[11:14])
        self.spin = tuple(numbers[14:17])
        self.force = tuple(numbers[17:20])

    def twenty(self):
        """Its numbers again, in the same order."""
        return (self.by_weight,) + self.by_moment + self.place + self.turn + self.momentum + self.spin + self.force


class Motion:
    """How a body is placed and moves at one moment, found once for all its points."""

    def __init__(self, kind, body):
        self.place = body.place
        self.turn = body.turn
        self.speed = how_fast(kind, body)
        self.turning = how_it_turns(kind, body)


class Point:
    """A point of a body: its arm from the body's place, where it is and how fast it goes."""

    def __init__(self, kind, motion, r):
        self.arm = turned(kind, motion.turn, r)
        self.place = added(kind, motion.place, self.arm)
        self.speed = added(kind, motion.speed, cross(kind, motion.turning, self.arm))


def with_number(body, what, x):
    """A copy of the body whose what-th number is x."""
    numbers = list(body.twenty())
    numbers[what] = x
    return Body(numbers)


def how_fast(kind, body):
    return scaled(kind, body.by_weight, body.momentum)


def how_it_turns(kind, body):
    own = turned_back(kind, body.turn, body.spin)
    return turned(kind, body.turn, each_times(kind, own, body.by_moment))


def point_place(kind, body, r):
    """Where the body's point r is. How fast it goes is not found, so that can't fail here."""
    return added(kind, body.place, turned(kind, body.turn, r))
