"""What is found of many bodies at once: the box around them, and which of them are slow."""

from bodieswing.bodies import how_fast
from bodieswing.kinds import is_below
from bodieswing.vectors import dot


def least(numbers):
    """Of equal ones it is the first, whose 0 may have another sign than a later one's."""
    found = numbers[0]
    for x in numbers:
        if is_below(x, found):
            found = x
    return found


def greatest(numbers):
    found = numbers[0]
    for x in numbers:
        if is_below(found, x):
            found = x
    return found


def box_of(bodies):
    """The least x, y, z of the bodies' places, then the greatest; there is one body at least."""
    columns = [[body.place[k] for body in bodies] for k in range(3)]
    return [least(column) for column in columns] + [greatest(column) for column in columns]


def slow_ones(kind, bodies, limit):
    """The numbers of the bodies whose speed has a square below the limit."""
    found = []
    for i, body in enumerate(bodies):
        v = how_fast(kind, body)
        if is_below(dot(kind, v, v), limit):
            found.append(i)
    return found
