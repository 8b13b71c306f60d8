"""A spring between points of two bodies, and its push."""

from bodieswing.bodies import Motion, Point
from bodieswing.vectors import divided, dot, scaled, taken_off


class Spring:
    """A spring from body `first` to body `second`, made of its nine numbers."""

    def __init__(self, first, second, numbers):
        self.first = first
        self.second = second
        self.first_point = tuple(numbers[0:3])
        self.second_point = tuple(numbers[3:6])
        self.stiffness = numbers[6]
        self.damping = numbers[7]
        self.rest = numbers[8]


class Push:
    """What a spring does: a force, and the arms by which it takes hold of both bodies."""

    def __init__(self, first_arm, second_arm, force):
        self.first_arm = first_arm
        self.second_arm = second_arm
        self.force = force


def find_push(kind, spring, first_motion, second_motion):
    """The spring's push, None if its ends are at one place."""
    # How fast the points go is found ahead of that: it may fail though it is not used.
    first = Point(kind, first_motion, spring.first_point)
    second = Point(kind, second_motion, spring.second_point)
    d = taken_off(kind, second.place, first.place)
    length = kind.root(dot(kind, d, d))
    if length[0] == 0:
        return None
    e = divided(kind, d, length)
    u = dot(kind, e, taken_off(kind, second.speed, first.speed))
    x = kind.minus(length, spring.rest)
    c = kind.times(spring.damping, u)
    f = kind.fused_opposite(spring.stiffness, x, c)
    return Push(first.arm, second.arm, scaled(kind, f, e))


def find_pushes(kind, bodies, springs):
    motions = {}
    pushes = []
    for spring in springs:
        for i in (spring.first, spring.second):
            if i not in motions:
                motions[i] = Motion(kind, bodies[i])
        pushes.append(find_push(kind, spring, motions[spring.first], motions[spring.second]))
    return pushes
