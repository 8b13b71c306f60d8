"""sums: what is added, in which order, and what fails."""

import unittest

from bodieswing.kinds import make_doubles, make_singles
from bodieswing.sums import side_by_side, with_number_added, with_product_added
from helper import STILL, ask, begin, bits_of, bodies_after, body, changed, get_all, great, least, put, signs, spring
from helper import step, sums, told

OBJECTS = (0, 1, 2, 3)
KINDS = ((make_doubles(), 0), (make_singles(), 2))
# Its two points are the bodies' own places.
PLAIN = [0, 0, 0, 0, 0, 0, 1, 0, 1]
NONE = [0.0] * 10
WAYS, TURNING, SPRINGS, ALL = 6, 7, 8, 9


def lanes(o):
    return 8 if o < 2 else 16


def far(o):
    """A number whose square is too great, though it isn't."""
    return 2.0 ** 600 if o < 2 else 2.0 ** 70


def scene(o, bodies, springs=()):
    return [begin(o)] + [body(o, changed(STILL, b)) for b in bodies] + [spring(o, i, j, n) for i, j, n in springs]


def answer(o, bodies, springs=()):
    """What sums answers for bodies (each what it has other than STILL) and springs (i, j, nine numbers)."""
    found = ask(*scene(o, bodies, springs), sums(o))
    if min(x[0] for x in found[:-1]) < 0:
        raise AssertionError(f"refused: {found}")
    return found[-1]


def ten(o, bodies, springs=()):
    return told(o, answer(o, bodies, springs))


class WhatIsAdded(unittest.TestCase):
    def test_nothing(self):
        for o in OBJECTS:
            self.assertEqual(ask(begin(o), sums(o))[1], [0] + [0] * 10)

    def test_a_body_at_rest(self):
        for o in OBJECTS:
            self.assertEqual(answer(o, [{4: 3, 5: -2}]), [0] + [0] * 10)

    def test_momentum(self):
        for o in OBJECTS:
            found = ten(o, [{11: 1, 12: 2, 13: 3}, {11: 10, 12: -20, 13: 0.5}])
            self.assertEqual(found[0:3], [11.0, -18.0, 3.5])

    def test_spin_about_0(self):
        for o in OBJECTS:
            found = ten(o, [{4: 1, 5: 2, 6: 3, 11: -4, 12: 5, 13: 7, 14: 100, 15: 200, 16: 300}, {14: 0.5}])
            # (1, 2, 3) and (-4, 5, 7) make (-1, -19, 13).
            self.assertEqual(found[3:6], [99.5, 181.0, 313.0])

    def test_energy_of_ways(self):
        for o in OBJECTS:
            self.assertEqual(ten(o, [{0: 0.5, 11: 2, 12: 4, 13: -6}])[6:], [14.0, 0.0, 0.0, 14.0])
            self.assertEqual(ten(o, [{0: 0.5, 11: 2}, {0: 0, 11: 100}, {0: 3, 13: 2}])[6:], [7.0, 0.0, 0.0, 7.0])

    def test_energy_of_turning(self):
        for o in OBJECTS:
            self.assertEqual(ten(o, [{1: 2, 2: 3, 3: 4, 14: 1, 15: 2, 16: -1}])[6:], [0.0, 9.0, 0.0, 9.0])
            # The body lies so that its own x is the hall's y.
            lying = {1: 2, 2: 0, 3: 0, 7: 0.5, 8: 0.5, 9: 0.5, 10: 0.5, 14: 50, 15: 3, 16: 50}
            self.assertEqual(ten(o, [lying])[6:], [0.0, 9.0, 0.0, 9.0])

    def test_energy_of_springs(self):
        for o in OBJECTS:
            two = [{}, {4: 3, 5: 4}]
            self.assertEqual(ten(o, two, [(0, 1, PLAIN)])[6:], [0.0, 0.0, 8.0, 8.0])
            self.assertEqual(ten(o, two, [(1, 0, changed(PLAIN, {6: 3, 8: 7}))])[6:], [0.0, 0.0, 6.0, 6.0])
            self.assertEqual(ten(o, two, [(0, 1, PLAIN), (1, 0, changed(PLAIN, {6: 4, 8: 5})),
                                          (0, 1, changed(PLAIN, {6: 2, 8: 0}))])[6:], [0.0, 0.0, 33.0, 33.0])
            self.assertEqual(ten(o, two, [(0, 1, changed(PLAIN, {6: 0}))])[6:], [0.0] * 4)

    def test_a_springs_points_turn(self):
        for o in OBJECTS:
            # Half round z the point (1, 0, 0) of the first is at (-1, 0, 0); the second's (0, 0, 5) stays.
            springs = [(0, 1, changed(PLAIN, {0: 1, 5: 5}))]
            self.assertEqual(ten(o, [{7: 0, 10: 1}, {4: 11}], springs)[SPRINGS], 72.0)

    def test_damping_and_speed_make_no_energy_of_springs(self):
        for o in OBJECTS:
            found = ten(o, [{11: 5}, {4: 3, 12: -2}], [(0, 1, changed(PLAIN, {7: 100}))])
            self.assertEqual(found[6:], [14.5, 0.0, 2.0, 16.5])

    def test_all(self):
        for o in OBJECTS:
            found = ten(o, [{11: 2, 14: 4}, {4: 3}], [(0, 1, PLAIN)])
            self.assertEqual(found, [2.0, 0.0, 0.0, 4.0, 0.0, 0.0, 2.0, 8.0, 2.0, 12.0])

    def test_all_is_ways_and_turning_then_springs(self):
        for o in OBJECTS:
            huge = 2.0 ** (53 if o < 2 else 24)
            # A huge one and two of 1: only two that are added first aren't lost.
            for ways, turning, springs, want in ((huge, 1, 1, huge), (1, huge, 1, huge), (1, 1, huge, huge + 2)):
                found = ten(o, [{0: 2 * ways, 11: 1, 1: 2 * turning, 14: 1}, {4: 1}],
                            [(0, 1, changed(PLAIN, {6: 2 * springs, 8: 0}))])
                self.assertEqual(found[6:], [ways, turning, springs, want])

    def test_force_and_held_bodies(self):
        for o in OBJECTS:
            self.assertEqual(ten(o, [{0: 0, 1: 0, 2: 0, 3: 0, 11: 3, 14: 4, 17: 9, 18: 9, 19: 9}]),
                             [3.0, 0.0, 0.0, 4.0] + [0.0] * 6)


class SignsOf0(unittest.TestCase):
    def test_minus_is_lost(self):
        for o in OBJECTS:
            minus = {k: -0.0 for k in (0, 1, 2, 3, 4, 5, 6, 11, 12, 13, 14, 15, 16)}
            for n in (1, lanes(o), 2 * lanes(o)):
                # Each sum begins with +0.
                self.assertEqual(signs(ten(o, [minus] * n)), signs(NONE))

    def test_what_is_taken_off_whole(self):
        for o in OBJECTS:
            found = ten(o, [{11: -3, 14: -2}, {11: 3, 14: 2}])
            self.assertEqual(signs(found[0:6]), signs(NONE[0:6]))

    def test_springs_at_rest(self):
        for o in OBJECTS:
            self.assertEqual(signs(ten(o, [{}, {4: 1}], [(0, 1, PLAIN), (1, 0, changed(PLAIN, {6: -0.0}))])), signs(NONE))


class SpringsOfNoLength(unittest.TestCase):
    def test_ends_at_one_place(self):
        for o in OBJECTS:
            # It doesn't push, but it is shorter by 3 than at rest.
            found = ten(o, [{4: 2}, {4: 5}], [(0, 1, changed(PLAIN, {0: 3, 6: 4, 8: 3}))])
            self.assertEqual(found[6:], [0.0, 0.0, 18.0, 18.0])
            found = ten(o, [{4: 2}, {4: 2}], [(0, 1, changed(PLAIN, {6: 4, 8: 0}))])
            self.assertEqual(signs(found), signs(NONE))

    def test_ends_so_near_that_the_length_is_0(self):
        for o in OBJECTS:
            near = 2.0 ** (-538 if o < 2 else -75)
            self.assertEqual(ten(o, [{}, {4: near}], [(0, 1, changed(PLAIN, {8: 4}))])[SPRINGS], 8.0)

    def test_how_fast_may_fail_where_only_the_place_is_used(self):
        for o in OBJECTS:
            # An end goes too fast, by its body's turning alone: that is found, and fails, in sums too.
            long = 2.0 ** (500 if o < 2 else 60)
            arm = changed(PLAIN, {0: long, 6: 2, 8: 0})
            spinning = {3: far(o), 16: 1}
            self.assertEqual(ten(o, [{}, {}], [(0, 1, arm)])[SPRINGS], long * long)
            self.assertEqual(answer(o, [spinning, {}], [(0, 1, arm)]), [-5])
            self.assertEqual(answer(o, [{}, spinning], [(1, 0, arm)]), [-5])
            # The end in the spinning body's middle doesn't go at all.
            self.assertEqual(ten(o, [{}, spinning], [(0, 1, arm)])[TURNING:ALL], [0.5 * far(o), long * long])

    def test_how_fast_may_fail_where_the_length_is_0(self):
        for o in OBJECTS:
            arm = changed(PLAIN, {0: far(o), 3: far(o), 6: 0})
            spinning = {3: far(o), 16: 1}
            self.assertEqual(ten(o, [spinning, {}])[TURNING], 0.5 * far(o))
            self.assertEqual(ten(o, [{}, {}], [(0, 1, arm)])[SPRINGS], 0.0)
            self.assertEqual(answer(o, [spinning, {}], [(0, 1, arm)]), [-5])
            self.assertEqual(answer(o, [{}, spinning], [(0, 1, arm)]), [-5])


def joined_first(i, j, width):
    """Whether what comes i-th and j-th is added to one another before it is added to what comes 0-th."""
    a, b = i % width, j % width
    while a != 0 and b != 0:
        if a == b:
            return True
        width //= 2
        a, b = a % width, b % width
    return False


class TheOrder(unittest.TestCase):
    """A huge number comes first; of two ones behind it both are lost but where they meet before they meet it."""

    def test_the_tree_as_told(self):
        # Of 8: 0 1 2 .. 7, then 0+4 1+5 2+6 3+7, then 0+2 1+3, then the two left.
        met = {(1, 5), (3, 7), (2, 6), (1, 3), (1, 7), (3, 5), (5, 7)}
        self.assertEqual({(i, j) for i in range(8) for j in range(i + 1, 8) if joined_first(i, j, 8)}, met)
        self.assertTrue(joined_first(3, 11, 8))
        self.assertFalse(joined_first(8, 16, 8))
        self.assertFalse(joined_first(3, 4, 8))
        # What comes 8-th has a sum of its own among 16, not among 8.
        self.assertTrue(joined_first(8, 24, 16))
        self.assertFalse(joined_first(8, 24, 8))

    def test_every_two(self):
        for kind, o in KINDS:
            width = lanes(o)
            huge = kind.from_bits(bits_of(o, 2.0 ** kind.digits))
            more = kind.from_bits(bits_of(o, 2.0 ** kind.digits + 2))
            one = kind.from_bits(bits_of(o, 1.0))
            for i in range(1, 2 * width + 2):
                for j in range(i + 1, 2 * width + 2):
                    parts = [(0, 0)] * (2 * width + 2)
                    parts[0], parts[i], parts[j] = huge, one, one
                    want = more if joined_first(i, j, width) else huge
                    self.assertEqual(side_by_side(kind, parts, with_number_added), want, (i, j))
                    pairs = [(x, one) for x in parts]
                    self.assertEqual(side_by_side(kind, pairs, with_product_added), want, (i, j))

    def test_each_of_the_sums(self):
        for o in (0, 2):
            width = lanes(o)
            huge = 2.0 ** (53 if o < 2 else 24)
            for i, j in ((1, 2), (1, 3), (1, 5), (2, 6), (4, 12), (1, width + 1), (width, 2 * width), (3, 2 * width + 3),
                         (width - 1, width // 2 - 1), (width // 2, width // 2 + width), (3, 4), (2, width + 6), (8, 24)):
                worth = {0: huge, i: 1, j: 1}
                count = max(i, j) + 1
                want = huge + 2 if joined_first(i, j, width) else huge
                # They are held fast, and their places are 0, so the moments are too.
                held = {k: 0 for k in range(4)}
                bodies = [{**held, **{k: worth.get(b, 0) for k in range(11, 17)}} for b in range(count)]
                self.assertEqual(ten(o, bodies)[0:6], [want] * 6, (o, i, j))
                bodies = [{0: 2 * worth.get(b, 0), 11: 1} for b in range(count)]
                self.assertEqual(ten(o, bodies)[WAYS], want, (o, i, j))
                bodies = [{1: 2 * worth.get(b, 0), 14: 1} for b in range(count)]
                self.assertEqual(ten(o, bodies)[TURNING], want, (o, i, j))
                springs = [(b % 2, 1 - b % 2, changed(PLAIN, {6: 2 * worth.get(b, 0), 8: 0})) for b in range(count)]
                self.assertEqual(ten(o, [{}, {4: 1}], springs)[SPRINGS], want, (o, i, j))

    def test_how_many(self):
        for o in OBJECTS:
            width = lanes(o)
            for n in (1, 2, width - 1, width, width + 1, 2 * width, 2 * width + 3, 5 * width):
                bodies = [{4: 1, 11: k + 1, 12: 1, 14: 2 * k} for k in range(n)]
                found = ten(o, bodies)
                whole = sum(range(1, n + 1))
                self.assertEqual(found[0:6], [whole, n, 0, 2 * whole - 2 * n, 0, n])
                self.assertEqual(found[6:8], [sum(k * k + 1 for k in range(1, n + 1)) / 2,
                                              sum(2 * k * k for k in range(n))])

    def test_how_many_springs(self):
        for o in OBJECTS:
            width = lanes(o)
            for n in (1, 2, width - 1, width, width + 1, 2 * width, 2 * width + 3, 5 * width):
                springs = [(0, 1, changed(PLAIN, {6: k, 8: 0})) for k in range(1, n + 1)]
                self.assertEqual(ten(o, [{}, {4: 2}], springs)[6:], [0, 0, n * (n + 1), n * (n + 1)])


class Roundings(unittest.TestCase):
    def test_half_is_fused(self):
        for o in OBJECTS:
            # Half of the least number is lost by itself; with as much in the sum it is a tie, and goes up to 2.
            tiny = least(o)
            self.assertEqual(ten(o, [{0: tiny, 11: 1}])[WAYS], 0.0)
            self.assertEqual(ten(o, [{0: 3 * tiny, 11: 1}])[WAYS], 2 * tiny)
            nothing = [{}] * (lanes(o) - 1)
            first = {0: 2 * tiny, 11: 1}
            self.assertEqual(ten(o, [first] + nothing + [{0: tiny, 11: 1}])[WAYS], 2 * tiny)
            first = {1: 2 * tiny, 14: 1}
            self.assertEqual(ten(o, [first] + nothing + [{1: tiny, 14: 1}])[TURNING], 2 * tiny)

    def test_half_the_stiffness_is_rounded(self):
        for o in OBJECTS:
            tiny = least(o)
            two = [{}, {4: 4}]
            self.assertEqual(ten(o, two, [(0, 1, changed(PLAIN, {6: tiny, 8: 0}))])[SPRINGS], 0.0)
            self.assertEqual(ten(o, two, [(0, 1, changed(PLAIN, {6: 3 * tiny, 8: 0}))])[SPRINGS], 32 * tiny)

    def test_a_springs_part_is_fused(self):
        # c t is a little less than half a unit: rounded by itself it would be just that, a tie that goes up.
        x = 1 + 2.0 ** -30
        t = x * x
        c = (1 - 2.0 ** -29) * 2.0 ** -53
        self.assertEqual(c * t, 2.0 ** -53)
        unit = 2.0 ** -52
        springs = [(0, 1, changed(PLAIN, {6: 2 * (1 + unit), 8: 2 + 2.0 ** -30}))]
        springs += [(0, 1, changed(PLAIN, {6: 0}))] * 7
        springs += [(0, 1, changed(PLAIN, {6: 2 * c, 8: 0}))]
        found = ten(0, [{}, {4: x}], springs)
        self.assertEqual(found[SPRINGS], 1 + unit)

    def test_the_moment_is_mended(self):
        x = 1 + 2.0 ** -30
        found = ten(0, [{4: x, 5: x, 11: x, 12: x}])
        self.assertEqual(found[5], 0.0)

    def test_the_moment_and_the_spin_are_added_first(self):
        for o in OBJECTS:
            huge = 2.0 ** (53 if o < 2 else 24)
            # The moment is -huge, the spin huge: what is in the sum already isn't lost.
            bodies = [{14: 1}] + [{}] * (lanes(o) - 1) + [{5: huge, 13: -1, 14: huge}]
            self.assertEqual(ten(o, bodies)[3], 1.0)
            bodies = [{14: 1}] + [{}] * (lanes(o) - 1) + [{5: huge, 13: 1, 14: 1}]
            self.assertEqual(ten(o, bodies)[3], huge)

    def test_weight_times_the_whole_square(self):
        weight, p = 0.3, 0.7
        self.assertNotEqual(weight * (p * p), (weight * p) * p)
        self.assertEqual(ten(0, [{0: weight, 11: p}])[WAYS], weight * (p * p) * 0.5)


class Failing(unittest.TestCase):
    def fails(self, o, bodies, springs=()):
        self.assertEqual(answer(o, bodies, springs), [-5], (o, bodies, springs))

    def test_momentum(self):
        for o in OBJECTS:
            self.fails(o, [{0: 0, 11: great(o)}] * 2)

    def test_the_moment(self):
        for o in OBJECTS:
            p = 2.0 ** (500 if o < 2 else 60)
            self.assertEqual(ten(o, [{4: far(o)}, {12: p}])[1], p)
            for place in (4, 5, 6):
                for momentum in (11, 12, 13):
                    if place + 7 == momentum:
                        self.assertEqual(answer(o, [{place: far(o), momentum: p}])[0], 0)
                    else:
                        self.fails(o, [{place: far(o), momentum: p}])

    def test_the_moment_and_the_spin(self):
        for o in OBJECTS:
            p = great(o) / far(o)
            self.assertEqual(ten(o, [{4: far(o), 12: p}])[5], great(o))
            self.assertEqual(ten(o, [{3: 0, 16: great(o)}])[5], great(o))
            self.fails(o, [{3: 0, 4: far(o), 12: p, 16: great(o)}])
            self.assertEqual(ten(o, [{3: 0, 4: far(o), 12: p, 16: -great(o)}])[5], 0.0)

    def test_the_whole_spin(self):
        for o in OBJECTS:
            for k in range(3):
                up, down, none = {1: 0, 2: 0, 3: 0, 14 + k: great(o)}, {1: 0, 2: 0, 3: 0, 14 + k: -great(o)}, {}
                between = [none] * (lanes(o) - 1)
                self.fails(o, [up, up])
                self.fails(o, [up] + between + [up])
                self.assertEqual(ten(o, [up] + between + [down] + between + [up])[3 + k], great(o))
                # The whole would not be too great, but one of the sums side by side is.
                self.fails(o, [up] + between + [up] + between + [down])
                self.fails(o, [up] + [down] + between[1:] + [up])
                self.assertEqual(ten(o, [up] + [down] + between + [up])[3 + k], great(o))

    def test_ways(self):
        for o in OBJECTS:
            for k in (11, 12, 13):
                # It is held fast, but its momentum's square is too great.
                self.fails(o, [{0: 0, k: far(o)}])
            self.fails(o, [{0: 2.0 ** (1000 if o < 2 else 100), 11: 2.0 ** 20}])

    def test_the_sum_of_ways(self):
        for o in OBJECTS:
            one = {0: great(o), 11: 1}
            between = [{}] * (lanes(o) - 1)
            self.assertEqual(ten(o, [one, one])[WAYS], great(o))
            self.fails(o, [one, one, one])
            self.assertEqual(ten(o, [one] + between + [one])[WAYS], great(o))
            self.fails(o, [one] + between + [one] + between + [one])

    def test_turning(self):
        for o in OBJECTS:
            # How it turns is too great; it isn't, but times the spin; it can't be turned back.
            self.fails(o, [{1: far(o), 14: far(o)}])
            self.fails(o, [{1: 1, 14: far(o)}])
            self.fails(o, [{1: 0, 2: 0, 3: 0, 7: 0, 8: 1, 15: great(o)}])
            self.assertEqual(ten(o, [{1: 0, 2: 0, 3: 0, 15: great(o)}])[TURNING], 0.0)

    def test_the_sum_of_turning(self):
        for o in OBJECTS:
            one = {1: great(o), 14: 1}
            between = [{}] * (lanes(o) - 1)
            self.assertEqual(ten(o, [one, one])[TURNING], great(o))
            self.fails(o, [one, one, one])
            self.fails(o, [one] + between + [one] + between + [one])

    def test_springs(self):
        for o in OBJECTS:
            calm = changed(PLAIN, {6: 0})
            # An end's place; the way between them; its square; the stretch's square; the energy.
            self.fails(o, [{4: great(o)}, {}], [(0, 1, changed(calm, {0: great(o)}))])
            self.fails(o, [{4: great(o)}, {}], [(1, 0, changed(calm, {3: great(o)}))])
            self.fails(o, [{4: great(o)}, {4: -great(o)}], [(0, 1, calm)])
            self.fails(o, [{4: far(o)}, {}], [(0, 1, calm)])
            self.fails(o, [{}, {4: 1}], [(0, 1, changed(calm, {8: far(o)}))])
            self.fails(o, [{}, {4: 4}], [(0, 1, changed(calm, {6: great(o), 8: 0}))])
            self.assertEqual(ten(o, [{}, {4: 1}], [(0, 1, changed(calm, {6: great(o), 8: 0}))])[SPRINGS], great(o) / 2)
            self.assertEqual(answer(o, [{4: great(o)}, {4: -great(o)}, {4: far(o)}])[0], 0)

    def test_a_turned_end(self):
        for o in OBJECTS:
            arm = changed(PLAIN, {0: great(o), 6: 0})
            half_round = {7: 0, 10: 1}
            self.fails(o, [half_round, {4: great(o)}], [(0, 1, arm)])
            self.assertEqual(ten(o, [{}, {4: great(o)}], [(0, 1, arm)])[SPRINGS], 0.0)

    def test_the_sum_of_springs(self):
        for o in OBJECTS:
            one = (0, 1, changed(PLAIN, {6: great(o), 8: 0}))
            none = [(0, 1, PLAIN)] * (lanes(o) - 1)
            two = [{}, {4: 1}]
            self.assertEqual(ten(o, two, [one, one])[SPRINGS], great(o))
            self.fails(o, two, [one, one, one])
            self.fails(o, two, [one] + none + [one] + none + [one])

    def test_all(self):
        for o in OBJECTS:
            ways, turning, both = {0: great(o), 11: 1}, {1: great(o), 14: 1}, {0: great(o), 11: 1, 1: great(o), 14: 1}
            held = (2, 3, changed(PLAIN, {6: great(o), 8: 0}))
            ends = [{}, {4: 1}]
            self.assertEqual(ten(o, [ways, turning] + ends)[ALL], great(o))
            self.fails(o, [both, both])
            self.fails(o, [ways, turning] + ends, [held])
            self.assertEqual(ten(o, [ways, {}] + ends, [held])[ALL], great(o))

    def test_what_only_the_push_needs_does_not_fail(self):
        for o in OBJECTS:
            # Damping times u is too great: a step fails, sums don't.
            calls = scene(o, [{}, {4: 1, 11: 4}], [(0, 1, changed(PLAIN, {7: great(o)}))])
            found = ask(*calls, step(o, 1, 0.5), sums(o))
            self.assertEqual(found[-2], [-5])
            self.assertEqual(told(o, found[-1])[6:], [8.0, 0.0, 0.0, 8.0])

    def test_it_is_as_it_was(self):
        for o in OBJECTS:
            calls = scene(o, [{11: 1, 14: 2}, {0: 0, 4: 2, 11: far(o)}], [(0, 1, PLAIN)])
            want = bodies_after(o, 2, *calls)
            self.assertEqual(ask(*calls, sums(o))[-1], [-5])
            self.assertEqual(bodies_after(o, 2, *calls, sums(o)), want)
            self.assertEqual(bodies_after(o, 2, *calls, sums(o), put(o, 1, 11, [0]), step(o, 2, 0.5)),
                             bodies_after(o, 2, *calls, put(o, 1, 11, [0]), step(o, 2, 0.5)))
            self.assertEqual(ask(*calls, sums(o), put(o, 1, 11, [0]), sums(o))[-1][0], 0)

    def test_not_failing_it_is_as_it_was(self):
        for o in OBJECTS:
            calls = scene(o, [{11: 1, 14: 2}, {4: 2}], [(0, 1, PLAIN)])
            found = ask(*calls, *get_all(o, 2), sums(o), sums(o), *get_all(o, 2))
            self.assertEqual(found[4:24], found[26:])
            self.assertEqual(found[24], found[25])


if __name__ == "__main__":
    unittest.main()
