"""put: which numbers are put where, what is refused, and that all later calls see it."""

import unittest

from bodieswing.kinds import make_doubles, make_singles
from bodieswing.scene import Scene
from helper import INF, NAN, STILL, ask, begin, bits_of, bodies_after, body, box, changed, frame, get, get_all, least
from helper import points, put, row, single, slow, spring, step, sums, told, walls

OBJECTS = (0, 1, 2, 3)
MAY = (4, 5, 6, 11, 12, 13, 14, 15, 16, 17, 18, 19)
MAY_NOT = (0, 1, 2, 3, 7, 8, 9, 10)
MOST = 2147483647


def three(o):
    """A begin and three bodies, all of whose numbers differ."""
    return [begin(o)] + [body(o, [100 * k + what + 1 if what not in (7, 8, 9, 10) else int(what == 7 + k)
                                  for what in range(20)]) for k in range(3)]


class WhatIsPut(unittest.TestCase):
    def test_one_and_several(self):
        for o in OBJECTS:
            for what in MAY:
                for first, numbers in ((0, [0.5]), (1, [-3]), (2, [7]), (0, [1, -2]), (1, [5, 6]), (0, [9, 8, -7])):
                    want = bodies_after(o, 3, *three(o))
                    for k, x in enumerate(numbers):
                        want[first + k][what] = bits_of(o, x)
                    calls = three(o) + [put(o, first, what, numbers)]
                    self.assertEqual(ask(*calls)[-1], [0])
                    self.assertEqual(bodies_after(o, 3, *calls), want)

    def test_none(self):
        for o in OBJECTS:
            want = bodies_after(o, 3, *three(o))
            for first in range(4):
                for what in MAY:
                    self.assertEqual(ask(*three(o), put(o, first, what, []))[-1], [0])
            self.assertEqual(bodies_after(o, 3, *three(o), put(o, 1, 4, [])), want)
            self.assertEqual(ask(begin(o), put(o, 0, 4, []))[-1], [0])

    def test_any_finite_bits(self):
        for o in OBJECTS:
            most = bits_of(o, INF) - 1
            minus = bits_of(o, -0.0)
            for what in MAY:
                for bits in (0, minus, 1, minus + 1, most, minus + most):
                    found = ask(*three(o), [6, o, 1, what, 1, bits], get(o, 1, 1, what))
                    self.assertEqual(found[-2:], [[0], [0, bits]])

    def test_again_and_again(self):
        for o in OBJECTS:
            found = ask(*three(o), put(o, 0, 4, [1, 2, 3]), put(o, 1, 4, [9]), put(o, 2, 5, [4]), get(o, 0, 3, 4),
                        get(o, 0, 3, 5))
            self.assertEqual(told(o, found[-2]), [1.0, 9.0, 3.0])
            self.assertEqual(told(o, found[-1]), [6.0, 106.0, 4.0])

    def test_only_that_object(self):
        calls = [x for o in OBJECTS for x in three(o)] + [put(1, 0, 4, [50]), put(2, 1, 4, [60])]
        found = ask(*calls, *[get(o, 0, 3, 4) for o in OBJECTS])[-4:]
        self.assertEqual([told(o, found[o]) for o in OBJECTS],
                         [[5.0, 105.0, 205.0], [50.0, 105.0, 205.0], [5.0, 60.0, 205.0], [5.0, 105.0, 205.0]])

    def test_all_4096(self):
        for kind, o in ((make_doubles(), 0), (make_singles(), 2)):
            scene = Scene(kind)
            bits = row(o, STILL)[1:]
            for k in range(4096):
                scene.add_body(bits)
            numbers = [bits_of(o, float(k)) for k in range(4096)]
            self.assertEqual(scene.put(0, 4, numbers), 0)
            self.assertEqual(scene.tell(0, 4096, 4), [0] + numbers)
            self.assertEqual(scene.put(1, 4, numbers), -2)
            self.assertEqual(scene.put(4096, 4, []), 0)
            self.assertEqual(scene.put(4095, 4, [1]), 0)
            self.assertEqual(scene.tell(4095, 1, 4), [0, 1])


class Refusals(unittest.TestCase):
    def refused(self, o, call, want):
        """The call is answered so, and everything is as it was."""
        held = three(o) + [spring(o, 0, 2, [0, 0, 0, 1, 2, 3, 1, 1, 1]), walls(o, [-50] * 3 + [50] * 3)]
        after = get_all(o, 3) + [sums(o), step(o, 1, 0.001)] + get_all(o, 3)
        found = ask(*held, call, *after)
        self.assertEqual(found[6], [want], call)
        self.assertEqual(found[7:], ask(*held, *after)[6:], call)

    def test_what(self):
        for o in OBJECTS:
            for what in MAY_NOT + (-1, -2, 20, 21, MOST, -MOST - 1):
                self.refused(o, put(o, 0, what, [0.5]), -2)
            for what in MAY_NOT + (-1, 20, MOST, -MOST - 1):
                self.assertEqual(ask(*three(o), put(o, 0, what, []))[-1], [-2])

    def test_first_and_how_many(self):
        for o in OBJECTS:
            for first, n in ((-1, 1), (-1, 0), (-1, 2), (-MOST - 1, 0), (0, 4), (1, 3), (2, 2), (3, 1), (4, 0),
                             (MOST, 0), (MOST, 1), (0, 4096)):
                self.refused(o, put(o, first, 4, [0.5] * n), -2)
            self.assertEqual(ask(begin(o), put(o, 0, 4, [1]), put(o, 1, 4, []))[1:], [[-2], [-2]])

    def test_not_finite(self):
        for o in OBJECTS:
            for x in (INF, -INF, NAN):
                for numbers in ([x], [x, 1, 2], [1, x, 2], [1, 2, x]):
                    self.refused(o, put(o, 0, 4, numbers), -3)
                for what in MAY:
                    self.assertEqual(ask(*three(o), put(o, 2, what, [x]))[-1], [-3])

    def test_the_first_refusal_is_told(self):
        for o in OBJECTS:
            for call in (put(o, 0, 7, [NAN]), put(o, -1, 4, [NAN]), put(o, 3, 4, [INF]), put(o, 0, 4, [NAN] * 4)):
                self.refused(o, call, -2)


class WhatSeesIt(unittest.TestCase):
    def test_step(self):
        for o in OBJECTS:
            calls = [begin(o), body(o, STILL), body(o, STILL)]
            found = ask(*calls, put(o, 1, 11, [2]), put(o, 1, 17, [4]), put(o, 1, 4, [10]), step(o, 1, 0.5),
                        get(o, 0, 2, 4), get(o, 0, 2, 11))
            self.assertEqual([told(o, x) for x in found[-2:]], [[0.0, 12.0], [0.0, 4.0]])

    def test_step_as_if_it_had_been_so_from_the_first(self):
        for o in OBJECTS:
            numbers = [0.75, 0.5, 1.25, 2, 0.1, -0.2, 0.3, 0.5, 0.5, 0.5, 0.5, 0.4, -0.7, 0.2, 0.6, -0.5, 0.8, 0.05, -9, 1]
            other = changed(STILL, {4: 3})
            held = [spring(o, 0, 1, [0.25, 0, 0, 0, 0.5, 0, 3, 0.5, 1])]
            bare = [0.75, 0.5, 1.25, 2, 0, 0, 0, 0.5, 0.5, 0.5, 0.5] + [0] * 9
            puts = [put(o, 0, what, [numbers[what]]) for what in MAY]
            want = bodies_after(o, 2, begin(o), body(o, numbers), body(o, other), *held, step(o, 3, 0.125))
            found = bodies_after(o, 2, begin(o), body(o, bare), body(o, other), *held, *puts, step(o, 3, 0.125))
            self.assertEqual(found, want)

    def test_after_steps(self):
        for o in OBJECTS:
            found = ask(begin(o), body(o, changed(STILL, {11: 1})), step(o, 4, 1.0), put(o, 0, 4, [-1]),
                        step(o, 2, 1.0), get(o, 0, 1, 4), put(o, 0, 11, [0]), step(o, 1000000, 1.0), get(o, 0, 1, 4))
            self.assertEqual((told(o, found[5]), told(o, found[8])), ([1.0], [1.0]))

    def test_the_walls_are_seen_at_the_next_step(self):
        for o in OBJECTS:
            found = ask(begin(o), body(o, STILL), walls(o, [-1] * 3 + [1] * 3), put(o, 0, 4, [5]), get(o, 0, 1, 4),
                        put(o, 0, 11, [0.5]), step(o, 1, 1.0), get(o, 0, 1, 4), get(o, 0, 1, 11))
            self.assertEqual([told(o, found[k]) for k in (4, 7, 8)], [[5.0], [1.0], [-0.5]])

    def test_sums_box_slow_points_frame(self):
        for o in OBJECTS:
            calls = [begin(o), body(o, STILL), body(o, STILL), put(o, 1, 4, [8]), put(o, 0, 12, [2]), put(o, 1, 15, [4])]
            found = ask(*calls, sums(o), box(o), slow(o, 1, 9), points(o, 0, 2, [1, 0, 0]), frame(o, 1, 1))[6:]
            self.assertEqual(told(o, found[0]), [0.0, 2.0, 0.0, 0.0, 4.0, 0.0, 2.0, 8.0, 0.0, 10.0])
            self.assertEqual(told(o, found[1]), [0.0, 0.0, 0.0, 8.0, 0.0, 0.0])
            self.assertEqual(found[2], [1, 1])
            self.assertEqual(told(o, found[3]), [1.0, 0.0, 0.0, 9.0, 0.0, 0.0])
            self.assertEqual(told((o + 2) % 4, found[4]), [8.0, 0.0, 0.0, 1.0, 0.0, 0.0, 0.0])

    def test_what_makes_a_step_fail(self):
        for o in OBJECTS:
            most = 2.0 ** 1023 if o < 2 else 2.0 ** 127
            found = ask(begin(o), body(o, STILL), put(o, 0, 11, [most]), put(o, 0, 17, [most]), step(o, 1, 1.0),
                        put(o, 0, 17, [-most]), step(o, 1, 1.0), get(o, 0, 1, 11))
            self.assertEqual(found[2:], [[0], [0], [-5], [0], [0], [0, 0]])

    def test_singles_are_not_doubles(self):
        found = ask(begin(2), body(2, STILL), put(2, 0, 4, [0.1]), put(2, 0, 5, [least(2)]), get(2, 0, 1, 4),
                    get(2, 0, 1, 5))
        self.assertEqual(found[-2:], [[0, single(0.1)], [0, 1]])


if __name__ == "__main__":
    unittest.main()
