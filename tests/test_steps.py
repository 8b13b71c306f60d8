"""Steps: springs, forces, turns and walls, what fails, and what is refused."""

import unittest

import helper
from helper import INF, NAN, STILL, ask, begin, bits_of, bodies_after, body, changed, get, get_all, signs, spring
from helper import step, walls

OBJECTS = (0, 1, 2, 3)
ROOM = [-1, -2, -3, 1, 2, 3]
# Its two points are the bodies' own places.
PLAIN = [0, 0, 0, 0, 0, 0, 1, 0, 1]


def floats_after(o, n, *calls):
    """The twenty numbers of n bodies after some calls, none of which may be refused."""
    refused = [answer for answer in ask(*calls) if answer[0] < 0]
    if refused:
        raise AssertionError(f"refused: {refused}")
    return [[helper.number_of(o, bits) for bits in one] for one in bodies_after(o, n, *calls)]


def after(o, numbers, n, dt, *calls):
    """The twenty numbers of one body, n steps later."""
    return floats_after(o, 1, begin(o), body(o, numbers), *calls, step(o, n, dt))[0]


class Refusals(unittest.TestCase):
    def test_n(self):
        for o in OBJECTS:
            for n in (-1, 1000001, -2147483648, 2147483647):
                self.assertEqual(ask(begin(o), body(o, STILL), step(o, n, 0.5))[2], [-2])
            self.assertEqual(ask(begin(o), step(o, 1000000, 0.5), step(o, 0, 0.5))[1:], [[0], [0]])

    def test_a_million_steps_of_a_body_at_rest(self):
        for o in (0, 2):
            self.assertEqual(after(o, STILL, 1000000, 0.5), [float(x) for x in STILL])

    def test_dt(self):
        for o in OBJECTS:
            for dt in (INF, -INF, NAN):
                for n in (0, 1, 1000000):
                    self.assertEqual(ask(begin(o), body(o, STILL), step(o, n, dt))[2], [-3])

    def test_the_first_refusal_is_told(self):
        for o in OBJECTS:
            failing = changed(STILL, {0: 1e30, 11: 1e30, 14: 1e38})
            found = ask(begin(o), body(o, failing), step(o, -1, NAN), step(o, 1000001, INF), step(o, 1, INF))
            self.assertEqual(found[2:], [[-2], [-2], [-3]])

    def test_refused_it_is_as_it_was(self):
        for o in OBJECTS:
            flying = changed(STILL, {11: 1, 14: 1, 17: 1})
            want = bodies_after(o, 1, begin(o), body(o, flying))
            self.assertEqual(bodies_after(o, 1, begin(o), body(o, flying), step(o, -1, 1.0), step(o, 1, NAN)), want)


class Flying(unittest.TestCase):
    def test_force_then_place(self):
        for o in OBJECTS:
            numbers = changed(STILL, {0: 0.5, 4: 10, 5: 20, 6: 30, 11: 1, 12: 2, 13: 3, 17: 4, 18: -8, 19: 16})
            found = after(o, numbers, 1, 0.5)
            # The place goes by the momentum that the force has changed already.
            self.assertEqual(found[11:14], [3.0, -2.0, 11.0])
            self.assertEqual(found[4:7], [10.75, 19.5, 32.75])
            self.assertEqual(found[0:4] + found[7:11] + found[14:20], [0.5, 1, 1, 1, 1, 0, 0, 0, 0, 0, 0, 4, -8, 16])

    def test_n_of_0_and_more(self):
        for o in OBJECTS:
            numbers = changed(STILL, {11: 1, 17: 2})
            self.assertEqual(after(o, numbers, 0, 1.0), [float(x) for x in numbers])
            self.assertEqual((after(o, numbers, 1, 1.0)[4], after(o, numbers, 1, 1.0)[11]), (3.0, 3.0))
            self.assertEqual((after(o, numbers, 3, 1.0)[4], after(o, numbers, 3, 1.0)[11]), (15.0, 7.0))
            ones = floats_after(o, 1, begin(o), body(o, numbers), step(o, 1, 1.0), step(o, 1, 1.0), step(o, 1, 1.0))
            self.assertEqual(after(o, numbers, 3, 1.0), ones[0])

    def test_dt_may_be_below_0(self):
        for o in OBJECTS:
            self.assertEqual(after(o, changed(STILL, {11: 1, 17: 2}), 1, -0.5)[4:12:7], [0.0, 0.0])
            self.assertEqual(after(o, changed(STILL, {11: 3, 17: 2}), 1, -0.5)[4:12:7], [-1.0, 2.0])

    def test_held_fast(self):
        for o in OBJECTS:
            found = after(o, changed(STILL, {0: 0, 4: 7, 11: 5, 17: 1}), 4, 0.5)
            self.assertEqual((found[4], found[11]), (7.0, 7.0))

    def test_along_is_rounded_once(self):
        x = 1 + 2.0 ** -30
        # dt f - p loses just what rounding the product would lose.
        numbers = changed(STILL, {11: -(x * x), 17: x})
        self.assertEqual(after(0, numbers, 1, x)[11], 2.0 ** -60)
        numbers = changed(STILL, {4: -(x * x), 11: x})
        self.assertEqual(after(0, numbers, 1, x)[4], 2.0 ** -60)

    def test_how_fast_is_rounded_by_itself(self):
        x = 1 + 2.0 ** -30
        numbers = changed(STILL, {0: x, 4: -(x * x), 11: x})
        self.assertEqual(after(0, numbers, 1, 1.0)[4], 0.0)

    def test_signs_of_0(self):
        for o in OBJECTS:
            numbers = changed(STILL, {11: -0.0, 12: -0.0, 17: -0.0, 4: -0.0})
            found = after(o, numbers, 1, 0.5)
            # -0 and -0 stay so, -0 and +0 are +0.
            self.assertEqual(signs(found[11:14]), ["-0.0", "0.0", "0.0"])
            self.assertEqual(signs(found[4:7]), ["-0.0", "0.0", "0.0"])
            self.assertEqual(signs(after(o, numbers, 1, 0.0)[11:14]), ["-0.0", "0.0", "0.0"])
            self.assertEqual(signs(after(o, numbers, 1, -0.5)[11:14]), ["0.0", "-0.0", "0.0"])

    def test_each_body_by_itself(self):
        for o in OBJECTS:
            found = floats_after(o, 2, begin(o), body(o, changed(STILL, {11: 1})), body(o, changed(STILL, {12: 2})),
                                 step(o, 1, 1.0))
            self.assertEqual([one[4:7] for one in found], [[1.0, 0.0, 0.0], [0.0, 2.0, 0.0]])


class Turning(unittest.TestCase):
    def test_about_each_axis(self):
        for o in OBJECTS:
            root = 1 / 2 ** 0.5 if o < 2 else helper.from_single(0x3F3504F3)
            for k in range(3):
                found = after(o, changed(STILL, {14 + k: 2}), 1, 1.0)
                want = [root, 0.0, 0.0, 0.0]
                want[1 + k] = root
                self.assertEqual(found[7:11], want)
                self.assertEqual(found[14 + k], 2.0)

    def test_by_its_moment(self):
        for o in OBJECTS:
            # The body lies so that its own x is the hall's y, and about that alone it can be turned.
            numbers = changed(STILL, {1: 2, 2: 0, 3: 0, 7: 0.5, 8: 0.5, 9: 0.5, 10: 0.5, 15: 1})
            root = 1 / 2 ** 0.5 if o < 2 else helper.from_single(0x3F3504F3)
            self.assertEqual(after(o, numbers, 1, 1.0)[7:11], [0.0, root, root, 0.0])
            self.assertEqual(after(o, changed(numbers, {15: 0, 14: 1}), 1, 1.0)[7:11], [0.5] * 4)

    def test_the_new_turn_is_the_left_one(self):
        for o in OBJECTS:
            # Turned half round x, then by (1, g) with g about y: (1, 0, 1, 0) (0, 1, 0, 0) is (0, 1, 0, -1).
            numbers = changed(STILL, {7: 0, 8: 1, 15: 2})
            found = after(o, numbers, 1, 1.0)[7:11]
            self.assertEqual([found[0], found[2]], [0.0, 0.0])
            self.assertEqual(found[1], -found[3])
            self.assertGreater(found[1], 0.7)

    def test_too_fast(self):
        for o in OBJECTS:
            # The square of (1, 2^32) is rounded to 2^64, that of (1, 2^33) is above.
            fast = after(o, changed(STILL, {14: 2.0 ** 33}), 1, 1.0)
            self.assertEqual(fast[7:11], [2.0 ** -32, 1.0, 0.0, 0.0])
            self.assertEqual(ask(begin(o), body(o, changed(STILL, {14: 2.0 ** 34})), step(o, 1, 1.0))[2], [-5])

    def test_half_of_dt_is_rounded(self):
        tiny = helper.from_double(1)
        numbers = changed(STILL, {1: 2.0 ** 512, 14: 2.0 ** 511})
        # Half of the least number is 0, half of thrice it is twice it.
        self.assertEqual(after(0, numbers, 1, tiny)[7:11], [1.0, 0.0, 0.0, 0.0])
        self.assertEqual(after(0, numbers, 1, 3 * tiny)[7:11], [1.0, 2.0 ** -50, 0.0, 0.0])


class Springs(unittest.TestCase):
    def pair(self, o, first, second, numbers, *calls):
        return floats_after(o, 2, begin(o), body(o, changed(STILL, first)), body(o, changed(STILL, second)),
                            spring(o, 0, 1, numbers), *calls)

    def test_it_pulls_and_pushes(self):
        for o in OBJECTS:
            for far, momentum in ((3, 2.0), (1, 0.0), (0.5, -0.5)):
                a, b = self.pair(o, {}, {4: far}, PLAIN, step(o, 1, 1.0))
                self.assertEqual((a[11], b[11]), (momentum, -momentum))
                self.assertEqual((a[4], b[4]), (momentum, far - momentum))

    def test_stiffness_and_length(self):
        for o in OBJECTS:
            a, b = self.pair(o, {}, {5: -8}, changed(PLAIN, {6: 0.5, 8: 2}), step(o, 1, 0.25))
            self.assertEqual((a[11:14], b[11:14]), ([0.0, -0.75, 0.0], [0.0, 0.75, 0.0]))

    def test_damping(self):
        for o in OBJECTS:
            # The second flies off with 4, the first with 1: damping 2 makes a force of 6, in line with the spring only.
            a, b = self.pair(o, {0: 0.5, 11: 2}, {4: 1, 11: 4, 12: 9}, changed(PLAIN, {6: 0, 7: 2}), step(o, 1, 0.5))
            self.assertEqual((a[11:14], b[11:14]), ([5.0, 0.0, 0.0], [1.0, 9.0, 0.0]))

    def test_points_off_the_middle(self):
        for o in OBJECTS:
            # From (0, 1, 0) to (4, 1, 0): the pull of 3 is along x and turns the first about z, the second too.
            numbers = changed(PLAIN, {1: 1, 4: 1})
            a, b = self.pair(o, {}, {4: 4}, numbers, step(o, 1, 1.0))
            self.assertEqual((a[11:14], b[11:14]), ([3.0, 0.0, 0.0], [-3.0, 0.0, 0.0]))
            self.assertEqual((a[14:17], b[14:17]), ([0.0, 0.0, -3.0], [0.0, 0.0, 3.0]))

    def test_points_turn_with_the_body(self):
        for o in OBJECTS:
            # Half round z the point (1, 0, 0) of the first is at (-1, 0, 0).
            a, b = self.pair(o, {7: 0, 10: 1}, {4: 4}, changed(PLAIN, {0: 1}), step(o, 0, 1.0), step(o, 1, 1.0))
            self.assertEqual(a[11], 4.0)
            self.assertEqual(b[11], -4.0)

    def test_points_go_with_the_spin(self):
        for o in OBJECTS:
            # The first spins about z with 1, so its point (0, 1, 0) goes with -1 along x.
            a, b = self.pair(o, {16: 1}, {4: 1, 5: 1}, changed(PLAIN, {1: 1, 6: 0, 7: 1}), step(o, 1, 1.0))
            self.assertEqual((a[11], b[11]), (1.0, -1.0))

    def test_ends_at_one_place(self):
        for o in OBJECTS:
            still = {11: -0.0, 17: -0.0, 4: 2}
            a, b = self.pair(o, still, still, changed(PLAIN, {6: 1000, 8: 5}), step(o, 1, 1.0))
            # There is no push at all: not even one of 0, which would make a +0.
            self.assertEqual(signs(a[11:12] + b[11:12]), ["-0.0", "-0.0"])

    def test_ends_so_near_that_the_length_is_0(self):
        near = {0: 2.0 ** -538, 2: 2.0 ** -75}
        for o in (0, 2):
            a, b = self.pair(o, {}, {4: near[o]}, changed(PLAIN, {6: 1000, 8: 5}), step(o, 1, 1.0))
            self.assertEqual((a[11], b[11], b[4]), (0.0, 0.0, near[o]))

    def test_ends_nearly_so_near(self):
        near = {0: 2.0 ** -537, 2: 2.0 ** -74}
        for o in (0, 2):
            a, b = self.pair(o, {}, {4: near[o]}, changed(PLAIN, {8: 5}), step(o, 1, 1.0))
            self.assertEqual((a[11], b[11]), (-5.0, 5.0))

    def test_how_fast_may_fail_where_it_is_not_used(self):
        great = {0: 1.5 * 2.0 ** 1023, 2: 1.5 * 2.0 ** 127}
        for o in (0, 2):
            # Both points are at one place, but how fast the first's goes is too great.
            spinning = changed(STILL, {11: great[o], 16: -1.0})
            arms = changed(PLAIN, {1: great[o], 4: great[o]})
            bodies = [begin(o), body(o, spinning), body(o, STILL)]
            small = 2.0 ** -100
            self.assertEqual(ask(*bodies, step(o, 1, small))[3], [0])
            self.assertEqual(ask(*bodies, spring(o, 0, 1, arms), step(o, 1, small))[4], [-5])
            self.assertEqual(ask(*bodies, spring(o, 1, 0, arms), step(o, 1, small))[4], [-5])
            self.assertEqual(ask(*bodies, spring(o, 1, 0, arms), step(o, 0, small))[4], [0])

    def test_two_on_one_body(self):
        for o in OBJECTS:
            bodies = [begin(o), body(o, STILL), body(o, changed(STILL, {4: 3})), body(o, changed(STILL, {4: -2}))]
            springs = [spring(o, 0, 1, PLAIN), spring(o, 0, 2, PLAIN)]
            a, b, c = floats_after(o, 3, *bodies, *springs, step(o, 1, 1.0))
            self.assertEqual((a[11], b[11], c[11]), (1.0, -2.0, 1.0))
            self.assertEqual((a[4], b[4], c[4]), (1.0, 1.0, -1.0))

    def test_pushes_are_of_the_bodies_at_first(self):
        for o in OBJECTS:
            # Each spring damps by 1: were the second's found after the first's push, it would find the first at rest.
            damper = changed(PLAIN, {6: 0, 7: 1, 8: 0})
            bodies = [begin(o), body(o, changed(STILL, {11: 1})), body(o, changed(STILL, {4: 3}))]
            a, b = floats_after(o, 2, *bodies, spring(o, 0, 1, damper), spring(o, 0, 1, damper), step(o, 1, 1.0))
            self.assertEqual((a[11], b[11]), (-1.0, 2.0))

    def test_one_spring_after_another(self):
        # The roundings tell in which order they are done: the pull of 1 is lost if the one of 2^53 comes first.
        bodies = [begin(0), body(0, STILL), body(0, changed(STILL, {4: 2})), body(0, changed(STILL, {4: 3}))]
        small = spring(0, 0, 1, PLAIN)
        great = spring(0, 0, 2, changed(PLAIN, {6: 2.0 ** 52}))
        one = floats_after(0, 1, *bodies, great, small, small, step(0, 1, 1.0))[0]
        other = floats_after(0, 1, *bodies, small, small, great, step(0, 1, 1.0))[0]
        self.assertEqual((one[11], other[11]), (2.0 ** 53, 2.0 ** 53 + 2))

    def test_a_held_body_holds_the_other(self):
        for o in OBJECTS:
            a, b = self.pair(o, {0: 0}, {4: 3}, PLAIN, step(o, 1, 0.5))
            self.assertEqual((a[4], a[11], b[4], b[11]), (0.0, 1.0, 2.5, -1.0))


class Walls(unittest.TestCase):
    def test_beyond_each(self):
        for o in OBJECTS:
            for k in range(3):
                for way in (-1, 1):
                    numbers = changed(STILL, {11 + k: way * 100})
                    found = after(o, numbers, 1, 1.0, walls(o, ROOM))
                    self.assertEqual(found[4 + k], way * (k + 1.0))
                    self.assertEqual(found[11 + k], -way * 100.0)

    def test_the_sign_is_made_not_turned(self):
        for o in OBJECTS:
            # It is beyond the wall but on its way back: it is set on the wall and flies on.
            found = after(o, changed(STILL, {4: -50, 11: 1, 5: 50, 12: -1}), 1, 1.0, walls(o, ROOM))
            self.assertEqual(found[4:7] + found[11:14], [-1.0, 2.0, 0.0, 1.0, -1.0, 0.0])

    def test_signs_of_0(self):
        for o in OBJECTS:
            numbers = changed(STILL, {4: -50, 5: 50, 11: -0.0, 12: 0.0, 17: -0.0})
            found = after(o, numbers, 1, 1.0, walls(o, ROOM))
            self.assertEqual(signs(found[11:14]), ["0.0", "-0.0", "0.0"])

    def test_on_the_wall_is_not_beyond(self):
        for o in OBJECTS:
            numbers = changed(STILL, {4: 1, 5: -2, 0: 0, 11: 7, 12: -7})
            found = after(o, numbers, 1, 1.0, walls(o, ROOM))
            self.assertEqual(found[4:6] + found[11:13], [1.0, -2.0, 7.0, -7.0])
            # -0 isn't below +0.
            flat = after(o, changed(STILL, {4: -0.0, 11: -0.0, 17: -0.0}), 1, 1.0, walls(o, [0.0] * 3 + [0.0] * 3))
            self.assertEqual(signs([flat[4], flat[11]]), ["-0.0", "-0.0"])

    def test_a_wall_of_0_with_a_sign(self):
        for o in OBJECTS:
            found = after(o, changed(STILL, {11: -1}), 1, 1.0, walls(o, [-0.0] * 3 + [1] * 3))
            self.assertEqual(signs([found[4], found[11]]), ["-0.0", "1.0"])

    def test_to_and_fro(self):
        for o in OBJECTS:
            places = [after(o, changed(STILL, {11: 1}), n, 0.75, walls(o, ROOM))[4] for n in range(6)]
            self.assertEqual(places, [0.0, 0.75, 1.0, 0.25, -0.5, -1.0])

    def test_none(self):
        for o in OBJECTS:
            self.assertEqual(after(o, changed(STILL, {11: 100}), 1, 1.0)[4], 100.0)

    def test_what_fails_ahead_of_the_walls_fails(self):
        great = {0: 1.5 * 2.0 ** 1023, 2: 1.5 * 2.0 ** 127}
        for o in (0, 2):
            numbers = changed(STILL, {4: great[o], 11: great[o]})
            self.assertEqual(ask(begin(o), body(o, numbers), walls(o, ROOM), step(o, 1, 1.0))[3], [-5])


class Failing(unittest.TestCase):
    def test_as_ahead_of_the_first_step(self):
        most = {0: 2.0 ** 1023, 2: 2.0 ** 127}
        for o in (0, 2):
            # Two steps go well, in the third the second body's place is too great; the first one flies and spins.
            first = changed(STILL, {5: 1, 12: 3, 14: 1, 17: 1})
            second = changed(STILL, {4: most[o] * 0.25, 11: most[o] * 0.75})
            calls = [begin(o), body(o, first), body(o, second)]
            self.assertEqual(ask(*calls, step(o, 2, 1.0))[3], [0])
            found = ask(*calls, step(o, 3, 1.0), *get_all(o, 2))
            self.assertEqual(found[3], [-5])
            self.assertEqual(found[4:], ask(*calls, *get_all(o, 2))[3:])
            # It goes on from there.
            self.assertEqual(bodies_after(o, 2, *calls, step(o, 3, 1.0), step(o, 1, 1.0)),
                             bodies_after(o, 2, *calls, step(o, 1, 1.0)))

    def test_one_body_fails_for_all(self):
        most = {0: 2.0 ** 1023, 2: 2.0 ** 127}
        for o in (0, 2):
            flying = body(o, changed(STILL, {11: 1}))
            failing = body(o, changed(STILL, {11: most[o], 17: most[o]}))
            found = ask(begin(o), flying, failing, flying, step(o, 1, 1.0), get(o, 0, 3, 4))
            self.assertEqual(found[4:], [[-5], [0, 0, 0, 0]])
            self.assertEqual(ask(begin(o), flying, failing, step(o, 0, 1.0))[3], [0])

    def test_a_springs_length_fails(self):
        far = {0: 2.0 ** 600, 2: 2.0 ** 70}
        for o in (0, 2):
            calls = [begin(o), body(o, STILL), body(o, changed(STILL, {4: far[o]}))]
            self.assertEqual(ask(*calls, step(o, 1, 1.0))[3], [0])
            found = ask(*calls, spring(o, 0, 1, changed(PLAIN, {6: 0})), step(o, 1, 1.0), get(o, 1, 1, 4))
            self.assertEqual(found[4:], [[-5], [0, bits_of(o, far[o])]])

    def test_other_objects_go_on(self):
        failing = changed(STILL, {11: 2.0 ** 1023, 17: 2.0 ** 1023})
        found = ask(begin(0), begin(1), body(0, failing), body(1, changed(STILL, {11: 1})), step(1, 2, 1.0),
                    step(0, 1, 1.0), get(1, 0, 1, 4), begin(3), body(3, changed(STILL, {11: 1})), step(3, 1, 1.0),
                    get(3, 0, 1, 4), get(0, 0, 1, 4))
        self.assertEqual(found[4:], [[0], [-5], [0, bits_of(1, 2.0)], [0], [0], [0], [0, bits_of(3, 1.0)], [0, 0]])


if __name__ == "__main__":
    unittest.main()
