"""A spring between points of two bodies, how it lies, and its push."""

from bodieswing.bodies import Motion, Point
from bodieswing.vectors import divided, dot, scaled, taken_off


class Spring:
    """A spring from body `first` to body `second`, made of its nine numbers."""

    def __init__(self, first, second, numbers):
        self.first = first
        self.second = second
        self.first_point = tuple(numbers[0:3])
        self.second_point = tuple(numbers[3:6])
        self.stiffness = numbers[6]
        self.damping = numbers[7]
        self.rest = numbers[8]


class Span:
    """A spring as it lies at one moment: both its ends, the way from the first to the second, and its length."""

    def __init__(self, kind, spring, first_motion, second_motion):
        # How fast the ends go is found here too: it may fail though it is not used.
        self.first_end = Point(kind, first_motion, spring.first_point)
        self.second_end = Point(kind, second_motion, spring.second_point)
        self.way = taken_off(kind, self.second_end.place, self.first_end.place)
        self.length = kind.root(dot(kind, self.way, self.way))


class Push:
    """What a spring does: a force, and the arms by which it takes hold of both bodies."""

    def __init__(self, first_arm, second_arm, force):
        self.first_arm = first_arm
        self.second_arm = second_arm
        self.force = force


def find_spans(kind, bodies, springs):
    motions = {}
    spans = []
    for spring in springs:
        for i in (spring.first, spring.second):
            if i not in motions:
                motions[i] = Motion(kind, bodies[i])
        spans.append(Span(kind, spring, motions[spring.first], motions[spring.second]))
    return spans


def stretch(kind, spring, span):
    """By how much the spring is longer than at rest."""
    return kind.minus(span.length, spring.rest)


def find_push(kind, spring, span):
    """The spring's push, None if its ends are at one place."""
    if span.length[0] == 0:
        return None
    e = divided(kind, span.way, span.length)
    u = dot(kind, e, taken_off(kind, span.second_end.speed, span.first_end.speed))
    c = kind.times(spring.damping, u)
    f = kind.fused_opposite(spring.stiffness, stretch(kind, spring, span), c)
    return Push(span.first_end.arm, span.second_end.arm, scaled(kind, f, e))


def find_pushes(kind, bodies, springs):
    spans = find_spans(kind, bodies, springs)
    return [find_push(kind, spring, span) for spring, span in zip(springs, spans)]
