"""What the tests share: calls and answers in short, and the document worked out a second time.

The second working-out (Model, Second) holds numbers as Python's floats and finds every result
as an exact fraction that is then rounded, so it shares no code with the package.
"""

import math
import struct
from fractions import Fraction

from bodieswing.hall import answers

BEGIN, BODY, SPRING, WALLS, STEP, GET = range(6)
INF = float("inf")
NAN = float("nan")

# The twenty numbers of a body at rest in the middle, all its weight and moments 1.
STILL = [1, 1, 1, 1, 0, 0, 0, 1, 0, 0, 0, 0, 0, 0, 0, 0, 0, 0, 0, 0]


def double(x):
    return struct.unpack("<Q", struct.pack("<d", x))[0]


def single(x):
    return struct.unpack("<I", struct.pack("<f", x))[0]


def from_double(bits):
    return struct.unpack("<d", struct.pack("<Q", bits))[0]


def from_single(bits):
    return struct.unpack("<f", struct.pack("<I", bits))[0]


def bits_of(o, x):
    """The bits of x as a number of object o."""
    return double(x) if o < 2 else single(x)


def number_of(o, bits):
    return from_double(bits) if o < 2 else from_single(bits)


def row(o, numbers):
    return [len(numbers)] + [bits_of(o, x) for x in numbers]


def begin(o):
    return [BEGIN, o]


def body(o, numbers):
    return [BODY, o] + row(o, numbers)


def spring(o, i, j, numbers):
    return [SPRING, o, i, j] + row(o, numbers)


def walls(o, numbers):
    return [WALLS, o] + row(o, numbers)


def step(o, n, dt):
    return [STEP, o, n, bits_of(o, dt)]


def get(o, first, n, what):
    return [GET, o, first, n, what]


def changed(numbers, changes):
    """A copy of numbers with other ones at some places: changes is a dict."""
    copy = list(numbers)
    for k in changes:
        copy[k] = changes[k]
    return copy


def parts(given):
    """The answers of a list of calls, each as a list of its own."""
    found = []
    at = 0
    while at < len(given):
        found.append(given[at + 1:at + 1 + given[at]])
        at += 1 + given[at]
    return found


def ask(*calls):
    """The answers to some calls, each a list of its own."""
    return parts(answers([x for call in calls for x in call]))


def get_all(o, n):
    """Calls that get all twenty numbers of the first n bodies."""
    return [get(o, 0, n, what) for what in range(20)]


def bodies_after(o, n, *calls):
    """The bits of n bodies after some calls: a list of twenty each."""
    told = ask(*calls, *get_all(o, n))[-20:]
    return [[told[what][1 + k] for what in range(20)] for k in range(n)]


class Broken(Exception):
    """The second working-out came upon something that fails."""


class Model:
    """Numbers of one kind, as floats."""

    def __init__(self, o):
        self.o = o
        self.digits = 53 if o < 2 else 24
        self.least = -1074 if o < 2 else -149
        self.limit = Fraction(2) ** (1024 if o < 2 else 128)

    def near(self, exact, if_zero):
        if exact == 0:
            return if_zero
        size = abs(exact)
        e = size.numerator.bit_length() - size.denominator.bit_length()
        if size < Fraction(2) ** e:
            e -= 1
        unit = Fraction(2) ** max(e - self.digits + 1, self.least)
        found = round(size / unit) * unit
        if found >= self.limit:
            raise Broken()
        return math.copysign(float(found), -1 if exact < 0 else 1)

    def fma(self, x, y, z):
        product = Fraction(x) * Fraction(y)
        signed = math.copysign(1.0, x) * math.copysign(1.0, y)
        both = signed < 0 and math.copysign(1.0, z) < 0
        return self.near(product + Fraction(z), -0.0 if both else 0.0)

    def add(self, x, y):
        return self.fma(x, 1.0, y)

    def sub(self, x, y):
        return self.fma(x, 1.0, -y)

    def mul(self, x, y):
        signed = math.copysign(1.0, x) * math.copysign(1.0, y)
        return self.near(Fraction(x) * Fraction(y), math.copysign(0.0, signed))

    def div(self, x, y):
        if y == 0:
            raise Broken()
        signed = math.copysign(1.0, x) * math.copysign(1.0, y)
        return self.near(Fraction(x) / Fraction(y), math.copysign(0.0, signed))

    def sqrt(self, x):
        if x < 0:
            raise Broken()
        # A single's root has so few digits that rounding a double's root again changes nothing.
        return math.sqrt(x) if self.o < 2 else from_single(single(math.sqrt(x)))

    def cross(self, a, b):
        found = []
        for k in range(3):
            i, j = (k + 1) % 3, (k + 2) % 3
            found.append(self.fma(a[i], b[j], -self.mul(a[j], b[i])))
        return found

    def moment(self, a, b):
        found = []
        for k in range(3):
            i, j = (k + 1) % 3, (k + 2) % 3
            w = self.mul(a[j], b[i])
            e = self.fma(-a[j], b[i], w)
            f = self.fma(a[i], b[j], -w)
            found.append(self.add(f, e))
        return found

    def dot(self, a, b):
        s = self.mul(a[0], b[0])
        for k in (1, 2):
            s = self.fma(a[k], b[k], s)
        return s

    def square(self, t):
        s = self.mul(t[0], t[0])
        for k in (1, 2, 3):
            s = self.fma(t[k], t[k], s)
        return s

    def one_long(self, t):
        s = self.square(t)
        if s < 0.25 or s > 2.0 ** 64:
            raise Broken()
        return [self.div(x, self.sqrt(s)) for x in t]

    def turned(self, t, r):
        u = t[1:]
        twice = [self.add(x, x) for x in self.cross(u, r)]
        d = self.cross(u, twice)
        return [self.add(self.fma(t[0], twice[k], r[k]), d[k]) for k in range(3)]

    def turn_product(self, s, t):
        w, x, y, z = s
        a, b, c, d = t
        ac = self.fma(w, a, -self.mul(x, b)), self.fma(w, b, self.mul(x, a))
        bd = self.fma(y, c, self.mul(z, d)), self.fma(z, c, -self.mul(y, d))
        ad = self.fma(w, c, -self.mul(x, d)), self.fma(w, d, self.mul(x, c))
        bc = self.fma(y, a, self.mul(z, b)), self.fma(z, a, -self.mul(y, b))
        return [self.sub(ac[0], bd[0]), self.sub(ac[1], bd[1]), self.add(ad[0], bc[0]), self.add(ad[1], bc[1])]

    def turning(self, b):
        t = b[7:11]
        own = self.turned([t[0], -t[1], -t[2], -t[3]], b[14:17])
        return self.turned(t, [self.mul(own[k], b[1 + k]) for k in range(3)])

    def point(self, b, r):
        a = self.turned(b[7:11], r)
        where = [self.add(b[4 + k], a[k]) for k in range(3)]
        swing = self.cross(self.turning(b), a)
        return a, where, [self.add(self.mul(b[0], b[11 + k]), swing[k]) for k in range(3)]

    def push(self, bodies, s):
        i, j, n = s
        a, at, fast = self.point(bodies[i], n[0:3])
        b, to, faster = self.point(bodies[j], n[3:6])
        d = [self.sub(to[k], at[k]) for k in range(3)]
        length = self.sqrt(self.dot(d, d))
        if length == 0:
            return None
        e = [self.div(x, length) for x in d]
        u = self.dot(e, [self.sub(faster[k], fast[k]) for k in range(3)])
        f = self.fma(-n[6], self.sub(length, n[8]), -self.mul(n[7], u))
        return a, b, [self.mul(f, x) for x in e]

    def pushed(self, one, arm, force, dt):
        swing = self.moment(arm, force)
        for k in range(3):
            one[11 + k] = self.fma(dt, force[k], one[11 + k])
            one[14 + k] = self.fma(dt, swing[k], one[14 + k])

    def moved(self, b, dt):
        for k in range(3):
            b[11 + k] = self.fma(dt, b[17 + k], b[11 + k])
            b[4 + k] = self.fma(dt, self.mul(b[0], b[11 + k]), b[4 + k])
        h = self.mul(dt, 0.5)
        g = [self.mul(h, x) for x in self.turning(b)]
        b[7:11] = self.one_long(self.turn_product([1.0] + g, b[7:11]))

    def step(self, bodies, springs, between, dt):
        pushes = [self.push(bodies, s) for s in springs]
        for (i, j, n), push in zip(springs, pushes):
            if push is not None:
                a, b, force = push
                self.pushed(bodies[i], a, force, -dt)
                self.pushed(bodies[j], b, force, dt)
        for b in bodies:
            self.moved(b, dt)
            for k in range(3):
                if between is not None and b[4 + k] < between[k]:
                    b[4 + k], b[11 + k] = between[k], abs(b[11 + k])
                elif between is not None and b[4 + k] > between[3 + k]:
                    b[4 + k], b[11 + k] = between[3 + k], -abs(b[11 + k])


class Second:
    """One object of the second working-out."""

    def __init__(self, o):
        self.o = o
        self.model = Model(o)
        self.bodies = []
        self.springs = []
        self.between = None

    def numbers(self, given):
        return [number_of(self.o, bits) for bits in given]

    def body(self, given):
        b = self.numbers(given)
        try:
            if not all(map(math.isfinite, b)) or min(b[0:4]) < 0 or not 0.25 <= self.model.square(b[7:11]) <= 4:
                return [-3]
        except Broken:
            return [-3]
        b[7:11] = self.model.one_long(b[7:11])
        self.bodies.append(b)
        return [len(self.bodies) - 1]

    def spring(self, i, j, given):
        n = self.numbers(given)
        if i == j or not 0 <= i < len(self.bodies) or not 0 <= j < len(self.bodies):
            return [-2]
        if not all(map(math.isfinite, n)) or min(n[6:9]) < 0:
            return [-3]
        self.springs.append((i, j, n))
        return [len(self.springs) - 1]

    def walls(self, given):
        n = self.numbers(given)
        if not all(map(math.isfinite, n)) or any(n[3 + k] < n[k] for k in range(3)):
            return [-3]
        self.between = n
        return [0]

    def step(self, n, bits):
        dt = number_of(self.o, bits)
        if not 0 <= n <= 1000000:
            return [-2]
        if not math.isfinite(dt):
            return [-3]
        bodies = [list(b) for b in self.bodies]
        try:
            for k in range(n):
                self.model.step(bodies, self.springs, self.between, dt)
        except Broken:
            return [-5]
        self.bodies = bodies
        return [0]

    def get(self, first, n, what):
        if first < 0 or n < 0 or first + n > len(self.bodies) or not 0 <= what < 20:
            return [-2]
        return [0] + [bits_of(self.o, b[what]) for b in self.bodies[first:first + n]]


def second_answers(calls):
    """What the second working-out answers to a list of calls, each a list."""
    objects = {}
    found = []
    for call in calls:
        o = call[1]
        if call[0] == BEGIN:
            objects[o] = Second(o)
            found.append([0])
        elif call[0] == BODY:
            found.append(objects[o].body(call[3:]))
        elif call[0] == SPRING:
            found.append(objects[o].spring(call[2], call[3], call[5:]))
        elif call[0] == WALLS:
            found.append(objects[o].walls(call[3:]))
        elif call[0] == STEP:
            found.append(objects[o].step(call[2], call[3]))
        else:
            found.append(objects[o].get(call[2], call[3], call[4]))
    return found
