"""Turns: four numbers w x y z, taken as the complex numbers (w, x) and (y, z)."""

from bodieswing.kinds import Failed, is_below, opposite
from bodieswing.vectors import added, along, cross

QUARTER = (1, -2)
GREATEST_SQUARE = (1, 64)


def complex_product(kind, p, q):
    u = kind.times(p[1], q[1])
    v = kind.times(p[1], q[0])
    return (kind.fused_less(p[0], q[0], u), kind.fused(p[0], q[1], v))


def mirror_product(kind, p, q):
    """p by the mirror image of q."""
    u = kind.times(p[1], q[1])
    v = kind.times(p[0], q[1])
    return (kind.fused(p[0], q[0], u), kind.fused_less(p[1], q[0], v))


def turn_product(kind, s, t):
    a = (s[0], s[1])
    b = (s[2], s[3])
    c = (t[0], t[1])
    d = (t[2], t[3])
    ac = complex_product(kind, a, c)
    bd = mirror_product(kind, b, d)
    ad = complex_product(kind, a, d)
    bc = mirror_product(kind, b, c)
    return (
        kind.minus(ac[0], bd[0]),
        kind.minus(ac[1], bd[1]),
        kind.plus(ad[0], bc[0]),
        kind.plus(ad[1], bc[1]),
    )


def turn_square(kind, t):
    s = kind.times(t[0], t[0])
    s = kind.fused(t[1], t[1], s)
    s = kind.fused(t[2], t[2], s)
    return kind.fused(t[3], t[3], s)


def made_one_long(kind, t):
    square = turn_square(kind, t)
    if is_below(square, QUARTER) or is_below(GREATEST_SQUARE, square):
        raise Failed("a turn that can't be made one long")
    length = kind.root(square)
    return (kind.over(t[0], length), kind.over(t[1], length), kind.over(t[2], length), kind.over(t[3], length))


def turned(kind, t, r):
    """The point r, turned by t."""
    u = (t[1], t[2], t[3])
    c = cross(kind, u, r)
    twice = added(kind, c, c)
    d = cross(kind, u, twice)
    s = along(kind, r, t[0], twice)
    return added(kind, s, d)


def turned_back(kind, t, r):
    return turned(kind, (t[0], opposite(t[1]), opposite(t[2]), opposite(t[3])), r)
