"""box and slow: where the bodies are, which of them are slow, and what is refused."""

import unittest

from bodieswing.kinds import make_doubles
from bodieswing.scene import Scene
from helper import INF, NAN, STILL, Model, ask, begin, bits_of, bodies_after, body, box, changed, get, get_all, great
from helper import least, next_down, next_up, number_of, row, signs, slow, step, told, walls

OBJECTS = (0, 1, 2, 3)
MOST = 2147483647


def many(o, bodies):
    """A begin and bodies, each told by what it has other than STILL."""
    return [begin(o)] + [body(o, changed(STILL, b)) for b in bodies]


class Box(unittest.TestCase):
    def found(self, o, places):
        bodies = [{4: x, 5: y, 6: z} for x, y, z in places]
        return told(o, ask(*many(o, bodies), box(o))[-1])

    def test_no_body(self):
        for o in OBJECTS:
            self.assertEqual(ask(begin(o), box(o), body(o, STILL), box(o), begin(o), box(o))[1::2], [[-1], [0] * 7, [-1]])
            # A body that was refused isn't there.
            self.assertEqual(ask(begin(o), body(o, changed(STILL, {7: 0})), box(o))[2], [-1])
            self.assertEqual(ask(begin(o), walls(o, [0] * 6), box(o), body(o, STILL))[2:], [[-1], [0]])

    def test_one(self):
        for o in OBJECTS:
            self.assertEqual(self.found(o, [(1, -2, 3)]), [1.0, -2.0, 3.0, 1.0, -2.0, 3.0])
            self.assertEqual(signs(self.found(o, [(-0.0, 0, -0.0)])), ["-0.0", "0.0", "-0.0"] * 2)

    def test_several(self):
        for o in OBJECTS:
            self.assertEqual(self.found(o, [(1, -2, 3), (-1, 5, 2), (0, 0, 9)]), [-1.0, -2.0, 2.0, 1.0, 5.0, 9.0])
            self.assertEqual(self.found(o, [(5, 1, 1), (4, 2, 1), (3, 3, 1)]), [3.0, 1.0, 1.0, 5.0, 3.0, 1.0])
            row_of_20 = [(k, -k, (7 * k) % 20) for k in range(20)]
            self.assertEqual(self.found(o, row_of_20), [0.0, -19.0, 0.0, 19.0, 0.0, 19.0])

    def test_by_worth(self):
        for o in OBJECTS:
            small, huge = least(o), great(o)
            found = self.found(o, [(-small, small, -huge), (0, 0, huge), (-2 * small, 2 * small, 1)])
            self.assertEqual(found, [-2 * small, 0.0, -huge, 0.0, 2 * small, huge])
            self.assertEqual(self.found(o, [(1, -1, 1), (next_down(o, 1), -next_up(o, 1), next_up(o, 1))]),
                             [next_down(o, 1), -next_up(o, 1), 1.0, 1.0, -1.0, next_up(o, 1)])

    def test_of_equal_ones_the_first(self):
        for o in OBJECTS:
            self.assertEqual(signs(self.found(o, [(0.0, -0.0, 0.0), (-0.0, 0.0, 0.0)])), ["0.0", "-0.0", "0.0"] * 2)
            self.assertEqual(signs(self.found(o, [(-1, 1, 5), (-0.0, 0.0, 5), (0.0, -0.0, 5)])),
                             ["-1.0", "0.0", "5.0", "-0.0", "1.0", "5.0"])
            self.assertEqual(signs(self.found(o, [(-1, 1, 5), (0.0, -0.0, 5), (-0.0, 0.0, 5), (0.0, -0.0, 5)])),
                             ["-1.0", "-0.0", "5.0", "0.0", "1.0", "5.0"])

    def test_the_places_alone(self):
        for o in OBJECTS:
            numbers = changed(list(range(20)), {7: 1, 8: 0, 9: 0, 10: 0})
            self.assertEqual(told(o, ask(begin(o), body(o, numbers), box(o))[2]), [4.0, 5.0, 6.0] * 2)

    def test_after_steps(self):
        for o in OBJECTS:
            calls = many(o, [{11: 1}, {12: -2}])
            self.assertEqual(told(o, ask(*calls, step(o, 3, 1.0), box(o))[-1]), [0.0, -6.0, 0.0, 3.0, 0.0, 0.0])

    def test_it_changes_nothing(self):
        for o in OBJECTS:
            calls = many(o, [{4: 5, 11: 1}, {5: 6, 14: 1}])
            found = ask(*calls, *get_all(o, 2), box(o), *get_all(o, 2))
            self.assertEqual(found[3:23], found[24:])
            self.assertEqual(ask(begin(o), box(o), body(o, STILL), get(o, 0, 1, 7))[2:], [[0], [0, bits_of(o, 1.0)]])


class Slow(unittest.TestCase):
    def test_how_many_and_which(self):
        for o in OBJECTS:
            calls = many(o, [{11: 3}, {11: 1}, {12: -2}, {}, {13: 1, 12: 1}])
            for limit, want in ((0.5, [1, 3]), (1.5, [2, 1, 3]), (2.5, [3, 1, 3, 4]), (4.5, [4, 1, 2, 3, 4]),
                                (100, [5, 0, 1, 2, 3, 4])):
                self.assertEqual(ask(*calls, slow(o, limit, 4096))[-1], want)

    def test_below_is_not_equal(self):
        for o in OBJECTS:
            calls = many(o, [{11: 2}, {11: 1, 12: 1, 13: 1}])
            for limit, want in ((4, [1, 1]), (next_up(o, 4), [2, 0, 1]), (next_down(o, 4), [1, 1]), (3, [0]),
                                (next_up(o, 3), [1, 1])):
                self.assertEqual(ask(*calls, slow(o, limit, 10))[-1], want)

    def test_no_bodies(self):
        for o in OBJECTS:
            self.assertEqual(ask(begin(o), slow(o, 1, 10), slow(o, 0, 0))[1:], [[0], [0]])

    def test_a_limit_of_0_and_below(self):
        for o in OBJECTS:
            calls = many(o, [{}, {11: -0.0, 12: -0.0, 13: -0.0}, {11: 1}])
            for limit in (0.0, -0.0, -least(o), -1, -great(o)):
                self.assertEqual(ask(*calls, slow(o, limit, 10))[-1], [0])
            self.assertEqual(ask(*calls, slow(o, least(o), 10))[-1], [2, 0, 1])
            self.assertEqual(ask(*calls, slow(o, great(o), 10))[-1], [3, 0, 1, 2])

    def test_no_more_than_most(self):
        for o in OBJECTS:
            calls = many(o, [{}, {11: 9}, {}, {}, {11: 9}, {}])
            for most, want in ((0, []), (1, [0]), (2, [0, 2]), (3, [0, 2, 3]), (4, [0, 2, 3, 5]), (5, [0, 2, 3, 5]),
                               (4095, [0, 2, 3, 5]), (4096, [0, 2, 3, 5])):
                # How many there are is told whole.
                self.assertEqual(ask(*calls, slow(o, 1, most))[-1], [4] + want)

    def test_4096_of_4096(self):
        scene = Scene(make_doubles())
        bits = row(0, STILL)[1:]
        for k in range(4096):
            scene.add_body(bits)
        one = bits_of(0, 1.0)
        self.assertEqual(scene.slow(one, 4096), [4096] + list(range(4096)))
        self.assertEqual(scene.slow(one, 4095), [4096] + list(range(4095)))
        self.assertEqual(scene.slow(one, 0), [4096])

    def test_how_fast_not_how_much(self):
        for o in OBJECTS:
            # The first is heavy, the second held fast, the third light; spin doesn't count.
            calls = many(o, [{0: 0.125, 11: 8}, {0: 0, 11: 1000}, {0: 16, 11: 0.25}, {14: 1000}])
            self.assertEqual(ask(*calls, slow(o, 1.5, 10))[-1], [3, 0, 1, 3])
            self.assertEqual(ask(*calls, slow(o, 1, 10))[-1], [2, 1, 3])

    def test_how_fast_is_rounded(self):
        # v is 0.1 times 0.3, and then v v: not 0.1 times 0.1 times (0.3 times 0.3).
        v = 0.1 * 0.3
        self.assertNotEqual(v * v, 0.1 * 0.1 * (0.3 * 0.3))
        calls = many(0, [{0: 0.1, 11: 0.3}])
        self.assertEqual(ask(*calls, slow(0, v * v, 9), slow(0, next_up(0, v * v), 9))[-2:], [[0], [1, 0]])

    def test_the_dot_is_fused(self):
        for o in OBJECTS:
            model = Model(o)
            v = [number_of(o, bits_of(o, x)) for x in (0.3, 0.7, 0.9)]
            squares = [model.mul(x, x) for x in v]
            fused = model.dot(v, v)
            self.assertNotEqual(fused, model.add(model.add(squares[0], squares[1]), squares[2]))
            calls = many(o, [{11: v[0], 12: v[1], 13: v[2]}])
            self.assertEqual(ask(*calls, slow(o, fused, 9), slow(o, next_up(o, fused), 9))[-2:], [[0], [1, 0]])

    def test_refusals(self):
        for o in OBJECTS:
            calls = many(o, [{11: 1}, {}])
            for most in (-1, 4097, MOST, -MOST - 1):
                self.assertEqual(ask(*calls, slow(o, 1, most))[-1], [-2])
                self.assertEqual(ask(begin(o), slow(o, 1, most))[-1], [-2])
            for limit in (INF, -INF, NAN):
                for most in (0, 1, 4096):
                    self.assertEqual(ask(*calls, slow(o, limit, most))[-1], [-3])
                    self.assertEqual(ask(begin(o), slow(o, limit, most))[-1], [-3])

    def test_failing(self):
        for o in OBJECTS:
            far = 2.0 ** (600 if o < 2 else 70)
            # How fast it is is too great; its square is.
            for failing in ({0: far, 11: far}, {11: far}, {12: far}, {13: -far}, {0: far, 13: -1}):
                for bodies in ([failing], [{}, failing], [failing, {}], [{}] * 5 + [failing]):
                    for limit, most in ((1, 4096), (1, 0), (0, 1), (-1, 1), (great(o), 1)):
                        self.assertEqual(ask(*many(o, bodies), slow(o, limit, most))[-1], [-5])
            # What isn't needed may be too great: the spin, and how it turns.
            self.assertEqual(ask(*many(o, [{0: 0, 11: great(o), 1: far, 14: far}]), slow(o, 1, 1))[-1], [1, 0])

    def test_the_first_refusal_is_told(self):
        for o in OBJECTS:
            failing = many(o, [{11: great(o)}])
            found = ask(*failing, slow(o, NAN, -1), slow(o, INF, 4097), slow(o, 1, 4097), slow(o, NAN, 1), slow(o, 1, 1))
            self.assertEqual(found[2:], [[-2], [-2], [-2], [-3], [-5]])

    def test_it_is_as_it_was(self):
        for o in OBJECTS:
            calls = many(o, [{11: 1, 14: 1}, {11: great(o), 0: 1}])
            want = bodies_after(o, 2, *calls)
            for call in (slow(o, 1, 9), slow(o, NAN, 9), slow(o, 1, -1)):
                self.assertEqual(bodies_after(o, 2, *calls, call), want)
            calls = many(o, [{11: 1, 14: 1}, {}])
            self.assertEqual(bodies_after(o, 2, *calls, slow(o, 9, 9)), bodies_after(o, 2, *calls))

    def test_after_steps(self):
        for o in OBJECTS:
            calls = many(o, [{17: 1}, {17: 2}, {17: 3}])
            found = ask(*calls, slow(o, 1, 9), step(o, 1, 1.0), slow(o, 4.5, 9), step(o, 1, 1.0), slow(o, 4.5, 9))
            self.assertEqual(found[4::2], [[3, 0, 1, 2], [2, 0, 1], [1, 0]])


if __name__ == "__main__":
    unittest.main()
