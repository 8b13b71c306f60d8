"""Numbers: every operation bit by bit, in doubles and in singles."""

import random
import unittest

import helper
from bodieswing.kinds import Failed, is_below, make_doubles, make_singles, opposite, without_sign

DOUBLES = make_doubles()
SINGLES = make_singles()
D_MINUS = 1 << 63
S_MINUS = 1 << 31
D_ONE = 0x3FF0000000000000
D_HALF = 0x3FE0000000000000
D_TWO = 0x4000000000000000
D_MOST = 0x7FEFFFFFFFFFFFFF
D_LEAST_NORMAL = 0x0010000000000000
S_ONE = 0x3F800000
S_HALF = 0x3F000000
S_TWO = 0x40000000
S_MOST = 0x7F7FFFFF
S_LEAST_NORMAL = 0x00800000
# One kind behind the other: the kind, the sign's bit, 1, 1/2, 2, the greatest, the least with all its digits.
KINDS = (
    (DOUBLES, D_MINUS, D_ONE, D_HALF, D_TWO, D_MOST, D_LEAST_NORMAL),
    (SINGLES, S_MINUS, S_ONE, S_HALF, S_TWO, S_MOST, S_LEAST_NORMAL),
)
OPERATIONS = ("plus", "minus", "times", "over", "fused", "fused_less", "less_fused", "fused_opposite")


def done(kind, operation, *bits):
    """The bits of what an operation gives, 'failed' if it fails."""
    numbers = [kind.from_bits(b) for b in bits]
    call = getattr(kind, operation)
    try:
        return kind.to_bits(call(*numbers))
    except Failed:
        return "failed"


class Bits(unittest.TestCase):
    def test_there_and_back(self):
        for bits in (0, 1, D_MINUS, D_MINUS + 1, D_LEAST_NORMAL - 1, D_LEAST_NORMAL, D_ONE, D_MOST, D_MINUS + D_MOST):
            self.assertEqual(DOUBLES.to_bits(DOUBLES.from_bits(bits)), bits)
        for bits in (0, 1, S_MINUS, S_MINUS + 1, S_LEAST_NORMAL - 1, S_LEAST_NORMAL, S_ONE, S_MOST, S_MINUS + S_MOST):
            self.assertEqual(SINGLES.to_bits(SINGLES.from_bits(bits)), bits)

    def test_what_is_not_finite(self):
        for bits in (D_MOST + 1, D_MOST + 2, D_MINUS + D_MOST + 1, 2 ** 64 - 1):
            self.assertIsNone(DOUBLES.from_bits(bits))
        for bits in (S_MOST + 1, S_MOST + 2, S_MINUS + S_MOST + 1, 2 ** 32 - 1):
            self.assertIsNone(SINGLES.from_bits(bits))

    def test_below_is_by_worth(self):
        rising = [helper.double(x) for x in (-1e308, -2.0, -1.5, -1.0, -1e-320, 0.0, 5e-324, 1e-310, 0.75, 1.0, 1e308)]
        numbers = [DOUBLES.from_bits(b) for b in rising]
        for i in range(len(numbers)):
            for j in range(len(numbers)):
                self.assertEqual(is_below(numbers[i], numbers[j]), i < j)
        minus_zero = DOUBLES.from_bits(D_MINUS)
        self.assertFalse(is_below(minus_zero, numbers[5]))
        self.assertFalse(is_below(numbers[5], minus_zero))

    def test_signs(self):
        for kind, minus, one, half, two, most, least in KINDS:
            for bits in (0, one, 1):
                x = kind.from_bits(bits)
                self.assertEqual(kind.to_bits(opposite(x)), bits + minus)
                self.assertEqual(opposite(opposite(x)), x)
                self.assertEqual(without_sign(opposite(x)), x)
                self.assertEqual(without_sign(x), x)


class Roundings(unittest.TestCase):
    def test_of_two_as_near_the_even_one(self):
        for kind, minus, one, half, two, most, least in KINDS:
            digits = kind.digits
            ulp_half = one - (digits << (digits - 1))
            # 1 and half a unit: down; the next one and half a unit: up. The same below 0.
            self.assertEqual(done(kind, "plus", one, ulp_half), one)
            self.assertEqual(done(kind, "plus", one + 1, ulp_half), one + 2)
            self.assertEqual(done(kind, "minus", minus + one, ulp_half), minus + one)
            self.assertEqual(done(kind, "minus", minus + one + 1, ulp_half), minus + one + 2)
            # A little more or less than half is no tie.
            self.assertEqual(done(kind, "plus", one, ulp_half + 1), one + 1)
            self.assertEqual(done(kind, "plus", one + 1, ulp_half - 1), one + 1)

    def test_the_carry_to_the_next_power(self):
        for kind, minus, one, half, two, most, least in KINDS:
            ulp_half = one - (kind.digits << (kind.digits - 1))
            self.assertEqual(done(kind, "plus", two - 1, ulp_half), two)
            self.assertEqual(done(kind, "minus", minus + two - 1, ulp_half), minus + two)

    def test_near_zero_with_fewer_bits(self):
        for kind, minus, one, half, two, most, least in KINDS:
            self.assertEqual(done(kind, "minus", least, 1), least - 1)
            self.assertEqual(done(kind, "plus", least - 1, 1), least)
            self.assertEqual(done(kind, "times", least, half), least >> 1)
            self.assertEqual(done(kind, "over", least, two), least >> 1)
            self.assertEqual(done(kind, "times", least + 1, half), least >> 1)
            self.assertEqual(done(kind, "times", least + 3, half), (least >> 1) + 2)
            self.assertEqual(done(kind, "times", 3, half), 2)
            self.assertEqual(done(kind, "times", 5, half), 2)
            self.assertEqual(done(kind, "over", 3, two), 2)
            # The greatest with fewer bits, and half a unit: up to the least with all.
            self.assertEqual(done(kind, "times", 2 * least - 1, half), least)

    def test_rounded_to_zero_keeps_its_sign(self):
        for kind, minus, one, half, two, most, least in KINDS:
            self.assertEqual(done(kind, "times", 1, half), 0)
            self.assertEqual(done(kind, "times", minus + 1, half), minus)
            self.assertEqual(done(kind, "times", 1, minus + half), minus)
            self.assertEqual(done(kind, "times", minus + 1, minus + 1), 0)
            self.assertEqual(done(kind, "times", 1, half + 1), 1)
            self.assertEqual(done(kind, "over", 1, two), 0)
            self.assertEqual(done(kind, "over", minus + 1, two), minus)
            self.assertEqual(done(kind, "over", 1, minus + most), minus)
            self.assertEqual(done(kind, "fused", 1, minus + 1, 0), minus)
            self.assertEqual(done(kind, "fused", 1, 1, minus), 0)
            self.assertEqual(done(kind, "less_fused", 1, 1, 0), minus)

    def test_no_finite_number(self):
        for kind, minus, one, half, two, most, least in KINDS:
            self.assertEqual(done(kind, "plus", most, most), "failed")
            self.assertEqual(done(kind, "minus", minus + most, most), "failed")
            self.assertEqual(done(kind, "times", most, one + 1), "failed")
            self.assertEqual(done(kind, "over", most, half), "failed")
            self.assertEqual(done(kind, "over", one, 1), "failed")
            self.assertEqual(done(kind, "fused", most, two, 0), "failed")
            self.assertEqual(done(kind, "fused_opposite", most, two, 0), "failed")
            # Half a unit of the greatest: the tie goes to what is too great, a bit less does not.
            half_unit = most - (kind.digits << (kind.digits - 1)) - ((1 << (kind.digits - 1)) - 1)
            self.assertEqual(done(kind, "plus", most, half_unit), "failed")
            self.assertEqual(done(kind, "plus", most, half_unit - 1), most)
            # The product alone is too great, but it is not rounded alone.
            self.assertEqual(done(kind, "fused_less", most, two, most), most)

    def test_signs_of_zero(self):
        for kind, minus, one, half, two, most, least in KINDS:
            plus_one, minus_one = one, minus + one
            for x, y, want in ((0, 0, 0), (0, minus, 0), (minus, 0, 0), (minus, minus, minus)):
                self.assertEqual(done(kind, "plus", x, y), want)
                self.assertEqual(done(kind, "minus", x, y ^ minus), want)
                self.assertEqual(done(kind, "fused", x, plus_one, y), want)
                self.assertEqual(done(kind, "fused", x ^ minus, minus_one, y), want)
                self.assertEqual(done(kind, "fused_less", plus_one, x, y ^ minus), want)
                self.assertEqual(done(kind, "less_fused", x ^ minus, plus_one, y), want)
                self.assertEqual(done(kind, "fused_opposite", plus_one, x ^ minus, y ^ minus), want)
            self.assertEqual(done(kind, "plus", minus_one, plus_one), 0)
            self.assertEqual(done(kind, "minus", minus_one, minus_one), 0)
            self.assertEqual(done(kind, "fused", minus_one, one, one), 0)
            self.assertEqual(done(kind, "fused_opposite", one, minus_one, one), 0)
            for x, y in ((0, one), (minus, minus + one)):
                self.assertEqual(done(kind, "times", x, y), 0)
                self.assertEqual(done(kind, "over", x, y), 0)
            for x, y in ((minus, one), (0, minus + one)):
                self.assertEqual(done(kind, "times", x, y), minus)
                self.assertEqual(done(kind, "over", x, y), minus)
            self.assertEqual(done(kind, "plus", minus, one), one)
            self.assertEqual(done(kind, "plus", minus + one, 0), minus + one)

    def test_quotients(self):
        for kind, minus, one, half, two, most, least in KINDS:
            for x in (0, minus, one, minus + one, 1):
                self.assertEqual(done(kind, "over", x, 0), "failed")
                self.assertEqual(done(kind, "over", x, minus), "failed")
            self.assertEqual(done(kind, "over", most, most), one)
            self.assertEqual(done(kind, "over", 1, 1), one)
            self.assertEqual(done(kind, "over", minus + one, two), minus + half)
        third = helper.double(1 / 3)
        self.assertEqual(done(DOUBLES, "over", D_ONE, helper.double(3.0)), third)
        self.assertEqual(third, 0x3FD5555555555555)
        self.assertEqual(done(SINGLES, "over", S_ONE, helper.single(3.0)), 0x3EAAAAAB)

    def test_roots(self):
        for kind, minus, one, half, two, most, least in KINDS:
            self.assertEqual(done(kind, "root", 0), 0)
            self.assertEqual(done(kind, "root", minus), minus)
            self.assertEqual(done(kind, "root", minus + one), "failed")
            self.assertEqual(done(kind, "root", minus + 1), "failed")
            self.assertEqual(done(kind, "root", one), one)
        self.assertEqual(done(DOUBLES, "root", D_TWO), 0x3FF6A09E667F3BCD)
        self.assertEqual(done(DOUBLES, "root", 1), helper.double(2.0 ** -537))
        self.assertEqual(done(DOUBLES, "root", D_MOST), 0x5FEFFFFFFFFFFFFF)
        self.assertEqual(done(DOUBLES, "root", helper.double(2.25)), helper.double(1.5))
        self.assertEqual(done(SINGLES, "root", S_TWO), 0x3FB504F3)
        self.assertEqual(done(SINGLES, "root", 2), helper.single(2.0 ** -74))
        self.assertEqual(done(SINGLES, "root", S_MOST), 0x5F7FFFFF)


class Fused(unittest.TestCase):
    def test_rounded_once_is_not_rounded_twice(self):
        for kind, minus, one, half, two, most, least in KINDS:
            x = one + 1
            square = done(kind, "times", x, x)
            lost = done(kind, "fused_less", x, x, square)
            # (1 + u) (1 + u) is 1 + 2 u + u u: the last is what the product loses.
            self.assertEqual(square, one + 2)
            unit = one - ((kind.digits - 1) << (kind.digits - 1))
            self.assertEqual(lost, done(kind, "times", unit, unit))
            self.assertEqual(done(kind, "minus", square, square), 0)
            self.assertEqual(done(kind, "less_fused", x, x, square), minus + lost)
            self.assertEqual(done(kind, "fused_opposite", x, x, minus + square), minus + lost)
            self.assertEqual(done(kind, "fused", x, x, minus + square), lost)

    def test_a_tie_only_if_the_product_is_rounded_first(self):
        for kind, minus, one, half, two, most, least in KINDS:
            digits = kind.digits
            a = digits // 2 + 1
            half_unit = one - (digits << (digits - 1))
            x = one + (1 << (digits - 1 - a))
            y = one - (1 << (digits - a)) - (digits << (digits - 1))
            # x y is (1 + 2^-a) (1 - 2^-a) half units: by itself it is rounded to just half a unit.
            self.assertEqual(done(kind, "times", x, y), half_unit)
            self.assertEqual(done(kind, "plus", one + 1, half_unit), one + 2)
            self.assertEqual(done(kind, "fused", x, y, one + 1), one + 1)
            self.assertEqual(done(kind, "fused_less", x, y, minus + one + 1), one + 1)
            self.assertEqual(done(kind, "less_fused", x, y, minus + one + 1), minus + one + 1)
            self.assertEqual(done(kind, "fused_opposite", x, y, one + 1), minus + one + 1)

    def test_near_zero(self):
        for kind, minus, one, half, two, most, least in KINDS:
            self.assertEqual(done(kind, "fused", 1, half, 1), 2)
            self.assertEqual(done(kind, "fused", 1, half, 2), 2)
            self.assertEqual(done(kind, "fused", minus + 1, half, 2), 2)
            self.assertEqual(done(kind, "fused", minus + 1, half, 1), 0)
            self.assertEqual(done(kind, "fused", 1, half, minus + 1), minus)


class AgainstFractions(unittest.TestCase):
    """Any numbers, against exact fractions that are rounded."""

    def number(self, luck, o):
        width = 64 if o < 2 else 32
        fields = 11 if o < 2 else 8
        way = luck.randrange(4)
        if way == 0:
            return luck.getrandbits(width)
        if way == 1:
            return luck.randrange(8) | luck.getrandbits(1) << (width - 1)
        middle = (1 << (fields - 1)) + luck.randrange(-40, 40)
        few = luck.getrandbits(width - 1 - fields) if way == 2 else luck.randrange(4)
        return luck.getrandbits(1) << (width - 1) | middle << (width - 1 - fields) | few

    def finite(self, luck, kind, o):
        bits = self.number(luck, o)
        while kind.from_bits(bits) is None:
            bits = self.number(luck, o)
        return bits

    def wanted(self, model, operation, numbers):
        x, y, z = numbers
        call = {
            "plus": lambda: model.add(x, y), "minus": lambda: model.sub(x, y),
            "times": lambda: model.mul(x, y), "over": lambda: model.div(x, y),
            "fused": lambda: model.fma(x, y, z), "fused_less": lambda: model.fma(x, y, -z),
            "less_fused": lambda: model.fma(-x, y, z), "fused_opposite": lambda: model.fma(-x, y, -z),
            "root": lambda: model.sqrt(x),
        }[operation]
        try:
            return helper.bits_of(model.o, call())
        except helper.Broken:
            return "failed"

    def test_any_numbers(self):
        luck = random.Random(11)
        for kind, o in ((DOUBLES, 0), (SINGLES, 2)):
            model = helper.Model(o)
            for turn in range(1200):
                bits = [self.finite(luck, kind, o) for k in range(3)]
                numbers = [helper.number_of(o, b) for b in bits]
                for operation in OPERATIONS:
                    taken = bits if "fused" in operation else bits[0:2]
                    want = self.wanted(model, operation, numbers)
                    self.assertEqual(done(kind, operation, *taken), want, (o, operation, bits))
                self.assertEqual(done(kind, "root", bits[0]), self.wanted(model, "root", numbers), (o, bits[0]))


if __name__ == "__main__":
    unittest.main()
