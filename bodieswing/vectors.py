"""Three numbers at a time, and the products of such threes."""


def added(kind, a, b):
    return (kind.plus(a[0], b[0]), kind.plus(a[1], b[1]), kind.plus(a[2], b[2]))


def taken_off(kind, a, b):
    """a - b"""
    return (kind.minus(a[0], b[0]), kind.minus(a[1], b[1]), kind.minus(a[2], b[2]))


def each_times(kind, a, b):
    """a and b multiplied number by number."""
    return (kind.times(a[0], b[0]), kind.times(a[1], b[1]), kind.times(a[2], b[2]))


def scaled(kind, c, d):
    return (kind.times(c, d[0]), kind.times(c, d[1]), kind.times(c, d[2]))


def divided(kind, d, c):
    return (kind.over(d[0], c), kind.over(d[1], c), kind.over(d[2], c))


def along(kind, p, c, d):
    return (kind.fused(c, d[0], p[0]), kind.fused(c, d[1], p[1]), kind.fused(c, d[2], p[2]))


def against(kind, p, c, d):
    return (kind.less_fused(c, d[0], p[0]), kind.less_fused(c, d[1], p[1]), kind.less_fused(c, d[2], p[2]))


def dot(kind, a, b):
    s = kind.times(a[0], b[0])
    s = kind.fused(a[1], b[1], s)
    return kind.fused(a[2], b[2], s)


def crossed(kind, difference, a, b):
    """The three of a cross product, each found by difference(kind, p, q, r, s) as p q - r s."""
    return (
        difference(kind, a[1], b[2], a[2], b[1]),
        difference(kind, a[2], b[0], a[0], b[2]),
        difference(kind, a[0], b[1], a[1], b[0]),
    )


def plain_difference(kind, p, q, r, s):
    return kind.fused_less(p, q, kind.times(r, s))


def mended_difference(kind, p, q, r, s):
    """p q - r s, where what the rounding of r s lost is added again."""
    w = kind.times(r, s)
    e = kind.less_fused(r, s, w)
    f = kind.fused_less(p, q, w)
    return kind.plus(f, e)


def cross(kind, a, b):
    return crossed(kind, plain_difference, a, b)


def moment(kind, a, b):
    return crossed(kind, mended_difference, a, b)
