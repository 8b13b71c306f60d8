"""Products of threes and of turns: which operations are rounded, in which order."""

import random
import unittest

import helper
from bodieswing.kinds import Failed, make_doubles, make_singles
from bodieswing.turns import complex_product, made_one_long, mirror_product, turn_product, turn_square
from bodieswing.turns import turned, turned_back
from bodieswing.vectors import against, along, cross, dot, moment

KINDS = ((make_doubles(), 0), (make_singles(), 2))


def numbers(kind, o, floats):
    return tuple(kind.from_bits(helper.bits_of(o, x)) for x in floats)


def floats(kind, o, found):
    return [helper.number_of(o, kind.to_bits(x)) for x in found]


def told(kind, o, found):
    return [kind.to_bits(x) for x in found]


def wanted(o, found):
    return [helper.bits_of(o, x) for x in found]


class SmallWholeNumbers(unittest.TestCase):
    """Nothing is rounded here, so the products are those of any book."""

    def test_along_and_against(self):
        for kind, o in KINDS:
            p, d = numbers(kind, o, (1.0, 2.0, 3.0)), numbers(kind, o, (10.0, 20.0, -30.0))
            c = numbers(kind, o, (0.5,))[0]
            self.assertEqual(floats(kind, o, along(kind, p, c, d)), [6.0, 12.0, -12.0])
            self.assertEqual(floats(kind, o, against(kind, p, c, d)), [-4.0, -8.0, 18.0])

    def test_dot_cross_moment(self):
        for kind, o in KINDS:
            a, b = numbers(kind, o, (1.0, 2.0, 3.0)), numbers(kind, o, (-4.0, 5.0, 7.0))
            self.assertEqual(floats(kind, o, [dot(kind, a, b)]), [27.0])
            self.assertEqual(floats(kind, o, cross(kind, a, b)), [-1.0, -19.0, 13.0])
            self.assertEqual(floats(kind, o, moment(kind, a, b)), [-1.0, -19.0, 13.0])

    def test_complex(self):
        for kind, o in KINDS:
            p, q = numbers(kind, o, (1.0, 2.0)), numbers(kind, o, (3.0, 5.0))
            self.assertEqual(floats(kind, o, complex_product(kind, p, q)), [-7.0, 11.0])
            self.assertEqual(floats(kind, o, mirror_product(kind, p, q)), [13.0, 1.0])

    def test_turn_product(self):
        for kind, o in KINDS:
            s, t = numbers(kind, o, (1.0, 2.0, 3.0, 4.0)), numbers(kind, o, (5.0, 6.0, 7.0, 8.0))
            self.assertEqual(floats(kind, o, turn_product(kind, s, t)), [-60.0, 12.0, 30.0, 24.0])
            self.assertEqual(floats(kind, o, turn_product(kind, t, s)), [-60.0, 20.0, 14.0, 32.0])

    def test_turned(self):
        for kind, o in KINDS:
            r = numbers(kind, o, (1.0, 2.0, 3.0))
            # A third of the way round the axis through (1, 1, 1), and half of the way round z.
            third = numbers(kind, o, (0.5, 0.5, 0.5, 0.5))
            half = numbers(kind, o, (0.0, 0.0, 0.0, 1.0))
            self.assertEqual(floats(kind, o, turned(kind, third, r)), [3.0, 1.0, 2.0])
            self.assertEqual(floats(kind, o, turned_back(kind, third, r)), [2.0, 3.0, 1.0])
            self.assertEqual(floats(kind, o, turned(kind, half, r)), [-1.0, -2.0, 3.0])


class Roundings(unittest.TestCase):
    def test_cross_rounds_the_product_behind_the_sign(self):
        x = 1 + 2.0 ** -30
        kind = make_doubles()
        a, b = numbers(kind, 0, (x, x, 0.0)), numbers(kind, 0, (x, x, 0.0))
        # x x is rounded behind the sign, not ahead of it: what it loses comes out.
        self.assertEqual(floats(kind, 0, cross(kind, a, b)), [0.0, 0.0, 2.0 ** -60])

    def test_moment_mends_it(self):
        x = 1 + 2.0 ** -30
        kind = make_doubles()
        a, b = numbers(kind, 0, (x, x, 0.0)), numbers(kind, 0, (x, x, 0.0))
        self.assertEqual(floats(kind, 0, moment(kind, a, b)), [0.0, 0.0, 0.0])

    def test_dot_rounds_the_first_product_only(self):
        x = 1 + 2.0 ** -30
        kind = make_doubles()
        self.assertEqual(floats(kind, 0, [dot(kind, numbers(kind, 0, (x, x, 0.0)), numbers(kind, 0, (-x, x, 0.0)))]),
                         [2.0 ** -60])
        self.assertEqual(floats(kind, 0, [dot(kind, numbers(kind, 0, (0.0, x, x)), numbers(kind, 0, (0.0, x, -x)))]),
                         [-2.0 ** -60])

    def test_the_complex_ones(self):
        x = 1 + 2.0 ** -30
        kind = make_doubles()
        p = numbers(kind, 0, (x, x))
        q = numbers(kind, 0, (x, -x))
        lost = 2.0 ** -60
        self.assertEqual(floats(kind, 0, complex_product(kind, p, p))[0], lost)
        self.assertEqual(floats(kind, 0, complex_product(kind, p, q))[1], -lost)
        self.assertEqual(floats(kind, 0, mirror_product(kind, p, q))[0], lost)
        self.assertEqual(floats(kind, 0, mirror_product(kind, p, p))[1], lost)


class OneLong(unittest.TestCase):
    def long_or_failed(self, kind, o, t):
        try:
            return floats(kind, o, made_one_long(kind, numbers(kind, o, t)))
        except Failed:
            return "failed"

    def test_edges(self):
        for kind, o in KINDS:
            below_half = helper.number_of(o, helper.bits_of(o, 0.5) - 1)
            above = helper.number_of(o, helper.bits_of(o, 2.0 ** 32) + 1)
            self.assertEqual(self.long_or_failed(kind, o, (0.5, 0.0, 0.0, -0.0)), [1.0, 0.0, 0.0, 0.0])
            self.assertEqual(self.long_or_failed(kind, o, (0.0, 0.0, below_half, 0.0)), "failed")
            self.assertEqual(self.long_or_failed(kind, o, (0.0, -2.0 ** 32, 0.0, 0.0)), [0.0, -1.0, 0.0, 0.0])
            self.assertEqual(self.long_or_failed(kind, o, (0.0, 0.0, 0.0, above)), "failed")
            self.assertEqual(self.long_or_failed(kind, o, (0.0, 0.0, 0.0, 0.0)), "failed")
            self.assertEqual(self.long_or_failed(kind, o, (0.25, 0.25, 0.25, 0.25)), [0.5] * 4)

    def test_it_divides_and_does_not_multiply(self):
        kind = make_doubles()
        found = floats(kind, 0, made_one_long(kind, numbers(kind, 0, (1.0, 1.0, 1.0, 0.0))))
        self.assertEqual(found, [1 / 3 ** 0.5] * 3 + [0.0])
        self.assertEqual(self.long_or_failed(kind, 0, (1.0, 1.0, 0.0, 0.0))[0], 1 / 2 ** 0.5)

    def test_a_square_that_fails(self):
        for kind, o in KINDS:
            with self.assertRaises(Failed):
                turn_square(kind, numbers(kind, o, (2.0 ** 100 if o else 2.0 ** 600, 0.0, 0.0, 0.0)))


class AgainstFractions(unittest.TestCase):
    """Any threes and turns, against the second working-out."""

    def test_any(self):
        luck = random.Random(5)
        for kind, o in KINDS:
            model = helper.Model(o)
            for way in range(60):
                many = [helper.number_of(o, helper.bits_of(o, luck.choice((
                    luck.uniform(-2, 2), luck.uniform(-1, 1) * 2.0 ** luck.randint(-40, 20), 0.0, -0.0))))
                    for k in range(14)]
                a, b, s, t = many[0:3], many[3:6], many[6:10], many[10:14]
                na, nb, ns, nt = [numbers(kind, o, x) for x in (a, b, s, t)]
                self.assertEqual(told(kind, o, [dot(kind, na, nb)]), wanted(o, [model.dot(a, b)]))
                self.assertEqual(told(kind, o, cross(kind, na, nb)), wanted(o, model.cross(a, b)))
                self.assertEqual(told(kind, o, moment(kind, na, nb)), wanted(o, model.moment(a, b)))
                self.assertEqual(told(kind, o, turned(kind, nt, na)), wanted(o, model.turned(t, a)))
                self.assertEqual(told(kind, o, turned_back(kind, nt, na)),
                                 wanted(o, model.turned([t[0], -t[1], -t[2], -t[3]], a)))
                self.assertEqual(told(kind, o, turn_product(kind, ns, nt)), wanted(o, model.turn_product(s, t)))
                self.assertEqual(told(kind, o, [turn_square(kind, nt)]), wanted(o, [model.square(t)]))


if __name__ == "__main__":
    unittest.main()
