"""What the tests share: calls and answers in short, and the document worked out a second time.

The second working-out (Model, Second) holds numbers as Python's floats and finds every result
as an exact fraction that is then rounded, so it shares no code with the package.
"""

import math
import struct
from fractions import Fraction

from bodieswing.hall import answers

BEGIN, BODY, SPRING, WALLS, STEP, GET, PUT, SUMS, BOX, SLOW, POINTS, FRAME = range(12)
INF = float("inf")
NAN = float("nan")

# The twenty numbers of a body at rest in the middle, all its weight and moments 1.
STILL = [1, 1, 1, 1, 0, 0, 0, 1, 0, 0, 0, 0, 0, 0, 0, 0, 0, 0, 0, 0]


def double(x):
    return struct.unpack("<Q", struct.pack("<d", x))[0]


def single(x):
    return struct.unpack("<I", struct.pack("<f", x))[0]


def from_double(bits):
    return struct.unpack("<d", struct.pack("<Q", bits))[0]


def from_single(bits):
    return struct.unpack("<f", struct.pack("<I", bits))[0]


def bits_of(o, x):
    """The bits of x as a number of object o."""
    return double(x) if o < 2 else single(x)


def number_of(o, bits):
    return from_double(bits) if o < 2 else from_single(bits)


def row(o, numbers):
    return [len(numbers)] + [bits_of(o, x) for x in numbers]


def begin(o):
    return [BEGIN, o]


def body(o, numbers):
    return [BODY, o] + row(o, numbers)


def spring(o, i, j, numbers):
    return [SPRING, o, i, j] + row(o, numbers)


def walls(o, numbers):
    return [WALLS, o] + row(o, numbers)


def step(o, n, dt):
    return [STEP, o, n, bits_of(o, dt)]


def get(o, first, n, what):
    return [GET, o, first, n, what]


def put(o, first, what, numbers):
    return [PUT, o, first, what] + row(o, numbers)


def sums(o):
    return [SUMS, o]


def box(o):
    return [BOX, o]


def slow(o, limit, most):
    return [SLOW, o, bits_of(o, limit), most]


def points(o, first, n, r):
    return [POINTS, o, first, n] + row(o, r)


def frame(o, first, n):
    return [FRAME, o, first, n]


def next_up(o, x):
    """The next number farther from 0 than x, which isn't 0."""
    return number_of(o, bits_of(o, x) + 1)


def next_down(o, x):
    return number_of(o, bits_of(o, x) - 1)


def least(o):
    """The least number above 0."""
    return number_of(o, 1)


def great(o):
    """A number of which the double is too great."""
    return 1.5 * 2.0 ** (1023 if o < 2 else 127)


def told(o, answer):
    """The numbers behind a 0 that is answered, as floats."""
    if answer[0] != 0:
        raise AssertionError(f"refused: {answer}")
    return [number_of(o, bits) for bits in answer[1:]]


def signs(numbers):
    """The numbers as texts, which tell -0.0 from 0.0."""
    return [str(float(x)) for x in numbers]


def changed(numbers, changes):
    """A copy of numbers with other ones at some places: changes is a dict."""
    copy = list(numbers)
    for k in changes:
        copy[k] = changes[k]
    return copy


def parts(given):
    """The answers of a list of calls, each as a list of its own."""
    found = []
    at = 0
    while at < len(given):
        found.append(given[at + 1:at + 1 + given[at]])
        at += 1 + given[at]
    return found


def ask(*calls):
    """The answers to some calls, each a list of its own."""
    return parts(answers([x for call in calls for x in call]))


def get_all(o, n):
    """Calls that get all twenty numbers of the first n bodies."""
    return [get(o, 0, n, what) for what in range(20)]


def bodies_after(o, n, *calls):
    """The bits of n bodies after some calls: a list of twenty each."""
    told = ask(*calls, *get_all(o, n))[-20:]
    return [[told[what][1 + k] for what in range(20)] for k in range(n)]


class Broken(Exception):
    """The second working-out came upon something that fails."""


class Model:
    """Numbers of one kind, as floats."""

    def __init__(self, o):
        self.o = o
        self.digits = 53 if o < 2 else 24
        self.least = -1074 if o < 2 else -149
        self.limit = Fraction(2) ** (1024 if o < 2 else 128)

    def near(self, exact, if_zero):
        if exact == 0:
            return if_zero
        size = abs(exact)
        e = size.numerator.bit_length() - size.denominator.bit_length()
        if size < Fraction(2) ** e:
            e -= 1
        unit = Fraction(2) ** max(e - self.digits + 1, self.least)
        found = round(size / unit) * unit
        if found >= self.limit:
            raise Broken()
        return math.copysign(float(found), -1 if exact < 0 else 1)

    def fma(self, x, y, z):
        product = Fraction(x) * Fraction(y)
        signed = math.copysign(1.0, x) * math.copysign(1.0, y)
        both = signed < 0 and math.copysign(1.0, z) < 0
        return self.near(product + Fraction(z), -0.0 if both else 0.0)

    def add(self, x, y):
        return self.fma(x, 1.0, y)

    def sub(self, x, y):
        return self.fma(x, 1.0, -y)

    def mul(self, x, y):
        signed = math.copysign(1.0, x) * math.copysign(1.0, y)
        return self.near(Fraction(x) * Fraction(y), math.copysign(0.0, signed))

    def div(self, x, y):
        if y == 0:
            raise Broken()
        signed = math.copysign(1.0, x) * math.copysign(1.0, y)
        return self.near(Fraction(x) / Fraction(y), math.copysign(0.0, signed))

    def sqrt(self, x):
        if x < 0:
            raise Broken()
        # A single's root has so few digits that rounding a double's root again changes nothing.
        return math.sqrt(x) if self.o < 2 else from_single(single(math.sqrt(x)))

    def cross(self, a, b):
        found = []
        for k in range(3):
            i, j = (k + 1) % 3, (k + 2) % 3
            found.append(self.fma(a[i], b[j], -self.mul(a[j], b[i])))
        return found

    def moment(self, a, b):
        found = []
        for k in range(3):
            i, j = (k + 1) % 3, (k + 2) % 3
            w = self.mul(a[j], b[i])
            e = self.fma(-a[j], b[i], w)
            f = self.fma(a[i], b[j], -w)
            found.append(self.add(f, e))
        return found

    def dot(self, a, b):
        s = self.mul(a[0], b[0])
        for k in (1, 2):
            s = self.fma(a[k], b[k], s)
        return s

    def square(self, t):
        s = self.mul(t[0], t[0])
        for k in (1, 2, 3):
            s = self.fma(t[k], t[k], s)
        return s

    def one_long(self, t):
        s = self.square(t)
        if s < 0.25 or s > 2.0 ** 64:
            raise Broken()
        return [self.div(x, self.sqrt(s)) for x in t]

    def turned(self, t, r):
        u = t[1:]
        twice = [self.add(x, x) for x in self.cross(u, r)]
        d = self.cross(u, twice)
        return [self.add(self.fma(t[0], twice[k], r[k]), d[k]) for k in range(3)]

    def turn_product(self, s, t):
        w, x, y, z = s
        a, b, c, d = t
        ac = self.fma(w, a, -self.mul(x, b)), self.fma(w, b, self.mul(x, a))
        bd = self.fma(y, c, self.mul(z, d)), self.fma(z, c, -self.mul(y, d))
        ad = self.fma(w, c, -self.mul(x, d)), self.fma(w, d, self.mul(x, c))
        bc = self.fma(y, a, self.mul(z, b)), self.fma(z, a, -self.mul(y, b))
        return [self.sub(ac[0], bd[0]), self.sub(ac[1], bd[1]), self.add(ad[0], bc[0]), self.add(ad[1], bc[1])]

    def turning(self, b):
        t = b[7:11]
        own = self.turned([t[0], -t[1], -t[2], -t[3]], b[14:17])
        return self.turned(t, [self.mul(own[k], b[1 + k]) for k in range(3)])

    def point(self, b, r):
        a = self.turned(b[7:11], r)
        where = [self.add(b[4 + k], a[k]) for k in range(3)]
        swing = self.cross(self.turning(b), a)
        return a, where, [self.add(self.mul(b[0], b[11 + k]), swing[k]) for k in range(3)]

    def push(self, bodies, s):
        i, j, n = s
        a, at, fast = self.point(bodies[i], n[0:3])
        b, to, faster = self.point(bodies[j], n[3:6])
        d = [self.sub(to[k], at[k]) for k in range(3)]
        length = self.sqrt(self.dot(d, d))
        if length == 0:
            return None
        e = [self.div(x, length) for x in d]
        u = self.dot(e, [self.sub(faster[k], fast[k]) for k in range(3)])
        f = self.fma(-n[6], self.sub(length, n[8]), -self.mul(n[7], u))
        return a, b, [self.mul(f, x) for x in e]

    def side_by_side(self, parts):
        """The sum of products (x, y), in 8 or 16 rows."""
        width = 8 if self.o < 2 else 16
        rows = []
        for j in range(width):
            s = 0.0
            for x, y in parts[j::width]:
                s = self.fma(x, y, s)
            rows.append(s)
        while width > 1:
            width //= 2
            for j in range(width):
                rows[j] = self.add(rows[j], rows[j + width])
        return rows[0]

    def stretch(self, bodies, s):
        i, j, n = s
        at, to = self.point(bodies[i], n[0:3])[1], self.point(bodies[j], n[3:6])[1]
        d = [self.sub(to[k], at[k]) for k in range(3)]
        return self.sub(self.sqrt(self.dot(d, d)), n[8])

    def sums(self, bodies, springs):
        """The ten numbers of sums; 1 x + s is rounded as x + s is."""
        momenta = [b[11:14] for b in bodies]
        spins = []
        for b in bodies:
            m = self.moment(b[4:7], b[11:14])
            spins.append([self.add(m[k], b[14 + k]) for k in range(3)])
        found = [self.side_by_side([(1.0, x[k]) for x in many]) for many in (momenta, spins) for k in range(3)]
        ways = self.side_by_side([(0.5, self.mul(b[0], self.dot(b[11:14], b[11:14]))) for b in bodies])
        turning = self.side_by_side([(0.5, self.dot(b[14:17], self.turning(b))) for b in bodies])
        stretches = [self.stretch(bodies, s) for s in springs]
        held = self.side_by_side([(self.mul(0.5, s[2][6]), self.mul(x, x)) for s, x in zip(springs, stretches)])
        return found + [ways, turning, held, self.add(self.add(ways, turning), held)]

    def pushed(self, one, arm, force, dt):
        swing = self.moment(arm, force)
        for k in range(3):
            one[11 + k] = self.fma(dt, force[k], one[11 + k])
            one[14 + k] = self.fma(dt, swing[k], one[14 + k])

    def moved(self, b, dt):
        for k in range(3):
            b[11 + k] = self.fma(dt, b[17 + k], b[11 + k])
            b[4 + k] = self.fma(dt, self.mul(b[0], b[11 + k]), b[4 + k])
        h = self.mul(dt, 0.5)
        g = [self.mul(h, x) for x in self.turning(b)]
        b[7:11] = self.one_long(self.turn_product([1.0] + g, b[7:11]))

    def step(self, bodies, springs, between, dt):
        pushes = [self.push(bodies, s) for s in springs]
        for (i, j, n), push in zip(springs, pushes):
            if push is not None:
                a, b, force = push
                self.pushed(bodies[i], a, force, -dt)
                self.pushed(bodies[j], b, force, dt)
        for b in bodies:
            self.moved(b, dt)
            for k in range(3):
                if between is not None and b[4 + k] < between[k]:
                    b[4 + k], b[11 + k] = between[k], abs(b[11 + k])
                elif between is not None and b[4 + k] > between[3 + k]:
                    b[4 + k], b[11 + k] = between[3 + k], -abs(b[11 + k])


class Second:
    """One object of the second working-out."""

    def __init__(self, o):
        self.o = o
        self.model = Model(o)
        self.bodies = []
        self.springs = []
        self.between = None

    def numbers(self, given):
        return [number_of(self.o, bits) for bits in given]

    def body(self, given):
        b = self.numbers(given)
        try:
            if not all(map(math.isfinite, b)) or min(b[0:4]) < 0 or not 0.25 <= self.model.square(b[7:11]) <= 4:
                return [-3]
        except Broken:
            return [-3]
        b[7:11] = self.model.one_long(b[7:11])
        self.bodies.append(b)
        return [len(self.bodies) - 1]

    def spring(self, i, j, given):
        n = self.numbers(given)
        if i == j or not 0 <= i < len(self.bodies) or not 0 <= j < len(self.bodies):
            return [-2]
        if not all(map(math.isfinite, n)) or min(n[6:9]) < 0:
            return [-3]
        self.springs.append((i, j, n))
        return [len(self.springs) - 1]

    def walls(self, given):
        n = self.numbers(given)
        if not all(map(math.isfinite, n)) or any(n[3 + k] < n[k] for k in range(3)):
            return [-3]
        self.between = n
        return [0]

    def step(self, n, bits):
        dt = number_of(self.o, bits)
        if not 0 <= n <= 1000000:
            return [-2]
        if not math.isfinite(dt):
            return [-3]
        bodies = [list(b) for b in self.bodies]
        try:
            for k in range(n):
                self.model.step(bodies, self.springs, self.between, dt)
        except Broken:
            return [-5]
        self.bodies = bodies
        return [0]

    def some(self, first, n):
        """These bodies, None if there aren't so many."""
        return None if first < 0 or n < 0 or first + n > len(self.bodies) else self.bodies[first:first + n]

    def get(self, first, n, what):
        if self.some(first, n) is None or not 0 <= what < 20:
            return [-2]
        return [0] + [bits_of(self.o, b[what]) for b in self.some(first, n)]

    def put(self, first, what, given):
        n = self.numbers(given)
        if self.some(first, len(n)) is None or what not in (4, 5, 6, 11, 12, 13, 14, 15, 16, 17, 18, 19):
            return [-2]
        if not all(map(math.isfinite, n)):
            return [-3]
        for b, x in zip(self.some(first, len(n)), n):
            b[what] = x
        return [0]

    def sums(self):
        try:
            return [0] + [bits_of(self.o, x) for x in self.model.sums(self.bodies, self.springs)]
        except Broken:
            return [-5]

    def box(self):
        if not self.bodies:
            return [-1]
        # Of equal ones Python's min and max give the first.
        found = [best([b[4 + k] for b in self.bodies]) for best in (min, max) for k in range(3)]
        return [0] + [bits_of(self.o, x) for x in found]

    def slow(self, bits, most):
        limit = number_of(self.o, bits)
        if not 0 <= most <= 4096:
            return [-2]
        if not math.isfinite(limit):
            return [-3]
        try:
            speeds = [[self.model.mul(b[0], x) for x in b[11:14]] for b in self.bodies]
            found = [i for i, v in enumerate(speeds) if self.model.dot(v, v) < limit]
        except Broken:
            return [-5]
        return [len(found)] + found[:most]

    def points(self, first, n, given):
        r = self.numbers(given)
        if self.some(first, n) is None:
            return [-2]
        if not all(map(math.isfinite, r)):
            return [-3]
        try:
            arms = [(b, self.model.turned(b[7:11], r)) for b in self.some(first, n)]
            return [0] + [bits_of(self.o, self.model.add(b[4 + k], a[k])) for b, a in arms for k in range(3)]
        except Broken:
            return [-5]

    def frame(self, first, n):
        if self.some(first, n) is None:
            return [-2]
        return [0] + [self.other_bits(x) for b in self.some(first, n) for x in b[4:11]]

    def other_bits(self, x):
        if self.o > 1:
            return double(x)
        try:
            return single(x)
        except OverflowError:
            return single(math.copysign(INF, x))


def second_answers(calls):
    """What the second working-out answers to a list of calls, each a list."""
    objects = {}
    found = []
    for call in calls:
        o = call[1]
        if call[0] == BEGIN:
            objects[o] = Second(o)
            found.append([0])
        elif call[0] == BODY:
            found.append(objects[o].body(call[3:]))
        elif call[0] == SPRING:
            found.append(objects[o].spring(call[2], call[3], call[5:]))
        elif call[0] == WALLS:
            found.append(objects[o].walls(call[3:]))
        elif call[0] == STEP:
            found.append(objects[o].step(call[2], call[3]))
        elif call[0] == GET:
            found.append(objects[o].get(call[2], call[3], call[4]))
        elif call[0] == PUT:
            found.append(objects[o].put(call[2], call[3], call[5:]))
        elif call[0] == SUMS:
            found.append(objects[o].sums())
        elif call[0] == BOX:
            found.append(objects[o].box())
        elif call[0] == SLOW:
            found.append(objects[o].slow(call[2], call[3]))
        elif call[0] == POINTS:
            found.append(objects[o].points(call[2], call[3], call[5:]))
        else:
            found.append(objects[o].frame(call[2], call[3]))
    return found
