"""Sums over all bodies and springs, found side by side: momentum, spin about 0, energies."""

from bodieswing.bodies import how_it_turns
from bodieswing.kinds import HALF, PLUS_ZERO
from bodieswing.springs import find_spans, stretch
from bodieswing.vectors import added, dot, moment


def with_number_added(kind, s, x):
    return kind.plus(s, x)


def with_product_added(kind, s, pair):
    return kind.fused(pair[0], pair[1], s)


def folded(kind, lanes):
    """The sums that were found side by side as one: each time the second half is added to the first."""
    while len(lanes) > 1:
        half = len(lanes) // 2
        lanes = [kind.plus(lanes[j], lanes[j + half]) for j in range(half)]
    return lanes[0]


def side_by_side(kind, parts, take_in):
    """The sum of the parts, where take_in(kind, s, part) is s with one part more."""
    lanes = [PLUS_ZERO for j in range(kind.lanes)]
    for k, part in enumerate(parts):
        j = k % kind.lanes
        lanes[j] = take_in(kind, lanes[j], part)
    return folded(kind, lanes)


def sum_of_threes(kind, threes):
    return [side_by_side(kind, [three[k] for three in threes], with_number_added) for k in range(3)]


def spin_about_zero(kind, body):
    return added(kind, moment(kind, body.place, body.momentum), body.spin)


def whole_momentum(kind, bodies):
    return sum_of_threes(kind, [body.momentum for body in bodies])


def whole_spin(kind, bodies):
    return sum_of_threes(kind, [spin_about_zero(kind, body) for body in bodies])


def energy_of_ways(kind, bodies):
    pairs = [(HALF, kind.times(body.by_weight, dot(kind, body.momentum, body.momentum))) for body in bodies]
    return side_by_side(kind, pairs, with_product_added)


def energy_of_turning(kind, bodies):
    pairs = [(HALF, dot(kind, body.spin, how_it_turns(kind, body))) for body in bodies]
    return side_by_side(kind, pairs, with_product_added)


def energy_of_springs(kind, bodies, springs):
    pairs = []
    for spring, span in zip(springs, find_spans(kind, bodies, springs)):
        # A spring whose ends are at one place doesn't push, but it is as far from its rest as any other.
        x = stretch(kind, spring, span)
        pairs.append((kind.times(HALF, spring.stiffness), kind.times(x, x)))
    return side_by_side(kind, pairs, with_product_added)


def ten_sums(kind, bodies, springs):
    """The whole momentum, the whole spin about 0, the energies of ways, turning and springs, and all of it."""
    ways = energy_of_ways(kind, bodies)
    turning = energy_of_turning(kind, bodies)
    held = energy_of_springs(kind, bodies, springs)
    energy = kind.plus(kind.plus(ways, turning), held)
    return whole_momentum(kind, bodies) + whole_spin(kind, bodies) + [ways, turning, held, energy]
