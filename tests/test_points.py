"""points and frame: where bodies' points are, and bodies in numbers of the other kind."""

import unittest

from bodieswing.kinds import make_doubles, make_singles
from helper import INF, NAN, STILL, ask, begin, bits_of, bodies_after, body, changed, double, frame, get_all, great, least
from helper import next_down, number_of, points, put, signs, single, step, told

OBJECTS = (0, 1, 2, 3)
MOST = 2147483647
# Half round z, and a third round the axis through (1, 1, 1).
HALF_ROUND = {7: 0, 10: 1}
THIRD_ROUND = {7: 0.5, 8: 0.5, 9: 0.5, 10: 0.5}
# first and n that are refused where there are three bodies.
NOT_OF_THREE = ((-1, 1), (-1, 0), (-1, 2), (0, -1), (1, -1), (4, -2), (0, 4), (1, 3), (2, 2), (3, 1), (4, 0), (MOST, MOST),
                (-MOST - 1, MOST), (MOST, 0), (0, MOST), (0, -MOST - 1))


def many(o, bodies):
    """A begin and bodies, each told by what it has other than STILL."""
    return [begin(o)] + [body(o, changed(STILL, b)) for b in bodies]


class Points(unittest.TestCase):
    def three(self, o):
        return many(o, [{4: 10}, {**HALF_ROUND, 5: 20}, {**THIRD_ROUND, 6: 30}])

    def test_none(self):
        for o in OBJECTS:
            for first in range(4):
                self.assertEqual(ask(*self.three(o), points(o, first, 0, [1, 2, 3]))[-1], [0])
            self.assertEqual(ask(begin(o), points(o, 0, 0, [1, 2, 3]))[-1], [0])

    def test_one_and_several(self):
        for o in OBJECTS:
            want = [11.0, 2.0, 3.0, -1.0, 18.0, 3.0, 3.0, 1.0, 32.0]
            for first, n in ((0, 1), (1, 1), (2, 1), (0, 2), (1, 2), (0, 3)):
                found = ask(*self.three(o), points(o, first, n, [1, 2, 3]))[-1]
                self.assertEqual(told(o, found), want[3 * first:3 * (first + n)])

    def test_the_middle(self):
        for o in OBJECTS:
            found = ask(*self.three(o), points(o, 0, 3, [0, 0, 0]))[-1]
            self.assertEqual(told(o, found), [10.0, 0.0, 0.0, 0.0, 20.0, 0.0, 0.0, 0.0, 30.0])

    def test_signs_of_0(self):
        for o in OBJECTS:
            # A point of -0 is +0 once it is turned, and -0 and +0 are +0.
            found = told(o, ask(*many(o, [{4: -0.0}]), points(o, 0, 1, [-0.0] * 3))[-1])
            self.assertEqual(signs(found), ["0.0", "0.0", "0.0"])

    def test_turned_and_added_rounded(self):
        for o in OBJECTS:
            huge = 2.0 ** (53 if o < 2 else 24)
            # A place so far that 1 is lost and 3 is rounded to 4.
            found = told(o, ask(*many(o, [{4: huge, 5: huge, 6: -huge}]), points(o, 0, 1, [1, 3, -1]))[-1])
            self.assertEqual(found, [huge, huge + 4, -huge])

    def test_after_steps_and_turns(self):
        for o in OBJECTS:
            # A step of (1, g) with g = (0, 0, 1) is a quarter round z, up to roundings.
            calls = many(o, [{11: 1, 16: 2}])
            found = told(o, ask(*calls, step(o, 1, 1.0), points(o, 0, 1, [1, 0, 5]))[-1])
            self.assertAlmostEqual(found[0], 1.0, places=6)
            self.assertAlmostEqual(found[1], 1.0, places=6)
            self.assertEqual(found[2], 5.0)

    def test_first_and_n(self):
        for o in OBJECTS:
            for first, n in NOT_OF_THREE:
                self.assertEqual(ask(*self.three(o), points(o, first, n, [1, 2, 3]))[-1], [-2], (first, n))
            self.assertEqual(ask(begin(o), points(o, 0, 1, [1, 2, 3]), points(o, 1, 0, [1, 2, 3]))[1:], [[-2], [-2]])

    def test_not_finite(self):
        for o in OBJECTS:
            for k in range(3):
                for x in (INF, -INF, NAN):
                    for n in (0, 1, 3):
                        self.assertEqual(ask(*self.three(o), points(o, 0, n, changed([1, 2, 3], {k: x})))[-1], [-3])
                    self.assertEqual(ask(begin(o), points(o, 0, 0, changed([1, 2, 3], {k: x})))[-1], [-3])

    def test_failing(self):
        for o in OBJECTS:
            much = great(o)
            # The place and the point; what is turned on the way there.
            for k in range(3):
                calls = many(o, [{}, {4 + k: much}, {}])
                r = changed([0, 0, 0], {k: much})
                self.assertEqual(ask(*calls, points(o, 0, 3, r))[-1], [-5])
                self.assertEqual(ask(*calls, points(o, 1, 1, r))[-1], [-5])
                # Only these bodies count.
                self.assertEqual(ask(*calls, points(o, 0, 1, r), points(o, 2, 1, r), points(o, 1, 0, r))[4:],
                                 [[0] + [bits_of(o, x) for x in r]] * 2 + [[0]])
                self.assertEqual(told(o, ask(*calls, points(o, 1, 1, [-x for x in r]))[-1]), [0.0] * 3)
            self.assertEqual(ask(*many(o, [HALF_ROUND]), points(o, 0, 1, [much, 0, 0]))[-1], [-5])
            self.assertEqual(ask(*many(o, [HALF_ROUND]), points(o, 0, 1, [0, 0, much]))[-1][0], 0)

    def test_how_fast_it_goes_is_not_found(self):
        for o in OBJECTS:
            far = 2.0 ** (600 if o < 2 else 70)
            # How fast the body is, and how it turns, would be too great.
            calls = many(o, [{0: far, 11: far, 1: far, 14: far}])
            self.assertEqual(told(o, ask(*calls, points(o, 0, 1, [1, 2, 3]))[-1]), [1.0, 2.0, 3.0])

    def test_the_first_refusal_is_told(self):
        for o in OBJECTS:
            calls = many(o, [{4: great(o)}])
            r = [great(o), 0, 0]
            found = ask(*calls, points(o, 0, 2, [NAN, 0, 0]), points(o, -1, 1, r), points(o, 0, 1, [great(o), NAN, 0]),
                        points(o, 0, 1, r))
            self.assertEqual(found[2:], [[-2], [-2], [-3], [-5]])

    def test_it_is_as_it_was(self):
        for o in OBJECTS:
            calls = many(o, [{4: great(o), 11: 1, 14: 1}])
            want = bodies_after(o, 1, *calls)
            for call in (points(o, 0, 1, [1, 2, 3]), points(o, 0, 1, [great(o), 0, 0]), points(o, 0, 1, [NAN, 0, 0]),
                         points(o, 0, 2, [1, 2, 3])):
                self.assertEqual(bodies_after(o, 1, *calls, call), want)


def framed(o, numbers):
    """The bits of the other kind of three numbers, put as a body's place; numbers are bits of o's kind."""
    calls = [begin(o), body(o, STILL)] + [[6, o, 0, 4 + k, 1, numbers[k]] for k in range(3)]
    found = ask(*calls, frame(o, 0, 1))
    if found[2:5] != [[0]] * 3:
        raise AssertionError(f"refused: {found}")
    return found[-1][1:4]


def one_framed(o, bits):
    found = framed(o, [bits] * 3)
    if found != [found[0]] * 3:
        raise AssertionError(f"three that are equal aren't: {found}")
    return found[0]


class Frame(unittest.TestCase):
    def test_place_and_turn(self):
        for o in OBJECTS:
            other = (o + 2) % 4
            calls = many(o, [{4: 1, 5: -2, 6: 3.5}, {**HALF_ROUND, 5: 20}, {**THIRD_ROUND, 6: -30, 11: 7, 14: 8}])
            want = [1.0, -2.0, 3.5, 1.0, 0.0, 0.0, 0.0, 0.0, 20.0, 0.0, 0.0, 0.0, 0.0, 1.0,
                    0.0, 0.0, -30.0, 0.5, 0.5, 0.5, 0.5]
            for first, n in ((0, 0), (3, 0), (0, 1), (1, 1), (2, 1), (0, 2), (1, 2), (0, 3)):
                found = ask(*calls, frame(o, first, n))[-1]
                self.assertEqual(found, [0] + [bits_of(other, x) for x in want[7 * first:7 * (first + n)]])

    def test_no_bodies(self):
        for o in OBJECTS:
            self.assertEqual(ask(begin(o), frame(o, 0, 0), frame(o, 0, 1), frame(o, 1, 0))[1:], [[0], [-2], [-2]])

    def test_first_and_n(self):
        for o in OBJECTS:
            calls = many(o, [{11: 1}, {}, {}])
            for first, n in NOT_OF_THREE:
                self.assertEqual(ask(*calls, frame(o, first, n))[-1], [-2], (first, n))
            self.assertEqual(bodies_after(o, 3, *calls, frame(o, 0, 4), frame(o, 0, 3)), bodies_after(o, 3, *calls))

    def test_a_turn_that_is_rounded(self):
        root = 0x3FE6A09E667F3BCC
        for o in (0, 1):
            found = ask(*many(o, [{7: 1, 8: -1}]), frame(o, 0, 1))[-1]
            self.assertEqual(found[4:6], [0x3F3504F3, 0xBF3504F3])
            self.assertEqual(single(number_of(0, root)), 0x3F3504F3)
        for o in (2, 3):
            found = ask(*many(o, [{7: 1, 8: -1}]), frame(o, 0, 1))[-1]
            self.assertEqual(found[4:6], [double(number_of(2, 0x3F3504F3)), double(-number_of(2, 0x3F3504F3))])

    def test_turns_near_0(self):
        for x, want in ((1e-60, 0), (-1e-60, 1 << 31), (2.0 ** -149, 1), (-1e-40, single(-1e-40)), (-0.0, 1 << 31)):
            self.assertEqual(ask(*many(0, [{9: x}]), frame(0, 0, 1))[-1][6], want)

    def test_the_nearest(self):
        for o in (0, 1):
            one = single(1.0)
            unit = 2.0 ** -23
            for x, want in ((1 + 0.25 * unit, one), (1 + 0.75 * unit, one + 1), (1 + 1.25 * unit, one + 1),
                            (1 + 0.5 * unit, one), (1 + 1.5 * unit, one + 2), (1 + 2.5 * unit, one + 2),
                            (1 + 0.5 * unit + 2.0 ** -52, one + 1), (1 + 1.5 * unit - 2.0 ** -52, one + 1),
                            (1 - 0.25 * unit, one), (1 - 0.75 * unit, one - 2), (2 - 0.5 * unit, single(2.0)),
                            (0.1, 0x3DCCCCCD), (1 / 3, 0x3EAAAAAB)):
                self.assertEqual(one_framed(o, double(x)), want, x)
                self.assertEqual(one_framed(o, double(-x)), want + (1 << 31), x)

    def test_near_0_with_fewer_bits(self):
        tiny = 2.0 ** -149
        for o in (0, 1):
            for x, want in ((tiny, 1), (2 * tiny, 2), (1.25 * tiny, 1), (1.5 * tiny, 2), (2.5 * tiny, 2), (3.5 * tiny, 4),
                            (0.75 * tiny, 1), (2.0 ** -126, 0x00800000), (2.0 ** -126 - tiny, 0x007FFFFF),
                            (2.0 ** -126 - 0.5 * tiny, 0x00800000), (2.0 ** -126 - 0.75 * tiny, 0x007FFFFF),
                            (2.0 ** -126 + 0.5 * tiny, 0x00800000), (2.0 ** -126 + 1.5 * tiny, 0x00800002),
                            (2.0 ** -127 + 0.5 * tiny, 0x00400000), (2.0 ** -127 + 1.5 * tiny, 0x00400002)):
                self.assertEqual(one_framed(o, double(x)), want, x)
                self.assertEqual(one_framed(o, double(-x)), want + (1 << 31), x)

    def test_rounded_to_0(self):
        half = 2.0 ** -150
        for o in (0, 1):
            for x, want in ((half, 0), (next_down(0, half), 0), (number_of(0, double(half) + 1), 1), (least(0), 0),
                            (1e-300, 0), (2.0 ** -1022, 0), (0.0, 0)):
                self.assertEqual(one_framed(o, double(x)), want, x)
                self.assertEqual(one_framed(o, double(-x)), want + (1 << 31), x)

    def test_too_great(self):
        most = (2 - 2.0 ** -23) * 2.0 ** 127
        # Half a unit above the greatest is the tie: of two as near the even one is too great already.
        tie = (2 - 2.0 ** -24) * 2.0 ** 127
        infinity = 0x7F800000
        for o in (0, 1):
            for x, want in ((most, infinity - 1), (next_down(0, tie), infinity - 1), (tie, infinity),
                            (2.0 ** 128, infinity), (1e300, infinity), (number_of(0, double(INF) - 1), infinity),
                            (number_of(0, double(most) + 1), infinity - 1)):
                self.assertEqual(one_framed(o, double(x)), want, x)
                self.assertEqual(one_framed(o, double(-x)), want + (1 << 31), x)

    def test_singles_exactly(self):
        for o in (2, 3):
            for bits in (0, 1, 2, 3, 0x00400000, 0x007FFFFF, 0x00800000, 0x00800001, 0x3F800000, 0x3F800001, 0x3DCCCCCD,
                         0x7F7FFFFF, 0x00000100, 0x12345678):
                want = double(number_of(2, bits))
                self.assertEqual(one_framed(o, bits), want)
                self.assertEqual(one_framed(o, bits + (1 << 31)), want + (1 << 63))
        # Some of them by hand: the least is 2^-149, which has all its bits as a double.
        self.assertEqual(one_framed(2, 1), (1023 - 149) << 52)
        self.assertEqual(one_framed(2, 3), ((1023 - 148) << 52) + (1 << 51))
        self.assertEqual(one_framed(3, 0x80000000), 1 << 63)

    def test_each_by_itself(self):
        self.assertEqual(framed(0, [double(1e300), double(-1e-300), double(0.1)]), [0x7F800000, 1 << 31, 0x3DCCCCCD])
        self.assertEqual(framed(2, [1, 1 << 31, single(0.5)]), [(1023 - 149) << 52, 1 << 63, double(0.5)])

    def test_there_and_back(self):
        for o in (2, 3):
            for bits in range(0, 0x7F800000, 0x00313131):
                there = one_framed(o, bits)
                self.assertEqual(one_framed(0, there), bits)

    def test_it_changes_nothing(self):
        for o in OBJECTS:
            calls = many(o, [{4: great(o), 5: least(o), 7: 0.6, 8: 0.7, 11: 1}])
            found = ask(*calls, *get_all(o, 1), frame(o, 0, 1), *get_all(o, 1), put(o, 0, 4, [1]), frame(o, 0, 1))
            self.assertEqual(found[2:22], found[23:43])
            self.assertEqual(found[44][1], bits_of((o + 2) % 4, 1.0))

    def test_of_one_kind_by_itself(self):
        for kind, o in ((make_doubles(), 0), (make_singles(), 2)):
            for bits in (0, 1, bits_of(o, 1.0), bits_of(o, INF) - 1, bits_of(o, -0.0), bits_of(o, -0.1)):
                self.assertEqual(kind.nearest_bits(kind.from_bits(bits)), bits)


if __name__ == "__main__":
    unittest.main()
