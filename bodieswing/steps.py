"""Steps: springs push, then each body moves, turns and is kept between the walls."""

from bodieswing.bodies import Body, how_fast, how_it_turns
from bodieswing.kinds import HALF, ONE, is_below, opposite, without_sign
from bodieswing.springs import find_pushes
from bodieswing.turns import made_one_long, turn_product
from bodieswing.vectors import against, along, moment, scaled


def do_push(kind, push, first, second, dt):
    first.momentum = against(kind, first.momentum, dt, push.force)
    first.spin = against(kind, first.spin, dt, moment(kind, push.first_arm, push.force))
    second.momentum = along(kind, second.momentum, dt, push.force)
    second.spin = along(kind, second.spin, dt, moment(kind, push.second_arm, push.force))


def move(kind, body, dt):
    body.momentum = along(kind, body.momentum, dt, body.force)
    body.place = along(kind, body.place, dt, how_fast(kind, body))
    g = scaled(kind, kind.times(dt, HALF), how_it_turns(kind, body))
    body.turn = made_one_long(kind, turn_product(kind, (ONE,) + g, body.turn))


def keep_between(body, walls):
    place = list(body.place)
    momentum = list(body.momentum)
    for k in range(3):
        if is_below(place[k], walls[k]):
            place[k] = walls[k]
            momentum[k] = without_sign(momentum[k])
        elif is_below(walls[k + 3], place[k]):
            place[k] = walls[k + 3]
            momentum[k] = opposite(without_sign(momentum[k]))
    body.place = tuple(place)
    body.momentum = tuple(momentum)


def one_step(kind, bodies, springs, walls, dt):
    """The bodies a step later; those handed in stay as they are."""
    pushes = find_pushes(kind, bodies, springs)
    later = [Body(body.twenty()) for body in bodies]
    for spring, push in zip(springs, pushes):
        if push is not None:
            do_push(kind, push, later[spring.first], later[spring.second], dt)
    for body in later:
        move(kind, body, dt)
        if walls is not None:
            keep_between(body, walls)
    return later


def all_twenties(bodies):
    return [body.twenty() for body in bodies]


def several_steps(kind, bodies, springs, walls, n, dt):
    """The bodies n steps later; those handed in stay as they are."""
    for k in range(n):
        later = one_step(kind, bodies, springs, walls, dt)
        # A step that changes nothing is followed by nothing but the same step.
        if all_twenties(later) == all_twenties(bodies):
            break
        bodies = later
    return bodies
