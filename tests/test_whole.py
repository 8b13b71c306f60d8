"""Whole lists of calls: bits that a machine's own numbers gave, and lists of any calls against the second working-out."""

import random
import unittest

import helper
from helper import ask, begin, bits_of, bodies_after, body, get, get_all, second_answers, spring, step, walls

BODIES = (
    [0.75, 0.5, 1.25, 2.0, 0.1, -0.2, 0.3, 0.9, 0.1, -0.3, 0.2, 0.4, -0.7, 0.2, 0.6, -0.5, 0.8, 0.05, -9.81, 0.02],
    [1.5, 0.7, 0.3, 1.1, 1.3, 0.4, -0.6, 0.2, -0.8, 0.5, 0.3, -0.9, 0.3, 1.7, -1.2, 0.4, 0.9, 0.0, -9.81, 0.1],
    [0.0, 1.9, 0.2, 0.6, -1.1, 0.9, 0.7, -0.4, 0.4, 0.6, -0.7, 0.0, 0.0, 0.0, 0.3, 2.1, -0.4, 0.0, 0.0, 0.0],
)
SPRINGS = (
    (0, 1, [0.3, -0.1, 0.2, -0.4, 0.15, 0.05, 31.7, 0.9, 0.8]),
    (1, 2, [0.1, 0.2, -0.3, 0.0, 0.6, 0.1, 12.3, 0.35, 1.1]),
    (2, 0, [-0.2, 0.1, 0.45, 0.25, 0.0, -0.35, 7.9, 1.6, 0.5]),
)
ROOM = [-1.15, -1.25, -0.65, 1.35, 1.05, 0.75]
# Place, turn, momentum and spin of the three after 25 steps of 0.03, as a C program with fma and fmaf found them.
IN_DOUBLES = (
    (0xBFF17AC1971E6B1F, 0xBFEFD82DB7D38CD1, 0x3FD50C86B4B413CF, 0x3FC7D6D5CB09EA31, 0x3FD1EC7370DFF2A8,
     0xBFE3DCE73801061F, 0x3FE6A9D7717BC063, 0xBFF6B1F046CE5383, 0x400FF02611609E80, 0xC0026AC478FC3B96,
     0x3FE348F865B60444, 0xBFCF02F0256EE948, 0x400423BBA56A2512),
    (0x3FB3895B28692CFB, 0xBFE76EAB2E75BC83, 0xBFE22C913E9B1356, 0x3F7F1014EAB7A9CB, 0xBFE87857C7DC649C,
     0x3FE2AEED314ABD42, 0x3FD17226AB112E8A, 0xBFD70FD45F467053, 0x3FEAC29D530D7344, 0x3FEFBA7B970085A3,
     0xBFE5CC4AEE84EDC3, 0xBFB8D56D9146BECD, 0x3FE1A35474B6AE48),
    (0xBFF199999999999A, 0x3FECCCCCCCCCCCCD, 0x3FE6666666666666, 0xBFC0433349D396DD, 0x3FD53A8223643B8B,
     0x3FDEC9839D6733F9, 0xBFE9A604079DBCAB, 0x40230C2536B155B1, 0xC01FC3EE38EE977A, 0xBFFE2FB549F7CC7F,
     0xBFF7B3D7333F5C46, 0xBFEA51D040E82A0D, 0x401049A2043D10FB),
)
IN_SINGLES = (
    (0xBF8BD60E, 0xBF7EC16E, 0x3EA86432, 0x3E3EB6B1, 0x3E8F639B, 0xBF1EE738, 0x3F354EBC, 0xBFB58F83, 0x407F8132,
     0xC0135627, 0x3F1A47B8, 0xBE781778, 0x40211DDE),
    (0x3D9C4AD3, 0xBF3B7558, 0xBF11648B, 0x3BF8814E, 0xBF43C2BD, 0x3F15776D, 0x3E8B9136, 0xBEB87EB2, 0x3F5614EB,
     0x3F7DD3DF, 0xBF2E624E, 0xBDC6ABBA, 0x3F0D1AA5),
    (0xBF8CCCCD, 0x3F666666, 0x3F333333, 0xBE02199C, 0x3EA9D415, 0x3EF64C1F, 0xBF4D301F, 0x41186126, 0xC0FE1F6F,
     0xBFF17DA0, 0xBFBD9EBF, 0xBF528E7E, 0x40824D11),
)


class FromAMachine(unittest.TestCase):
    def test_three_bodies_on_three_springs(self):
        for o in (0, 1, 2, 3):
            calls = [begin(o)] + [body(o, numbers) for numbers in BODIES]
            calls += [spring(o, i, j, numbers) for i, j, numbers in SPRINGS]
            found = bodies_after(o, 3, *calls, walls(o, ROOM), step(o, 25, 0.03))
            want = IN_DOUBLES if o < 2 else IN_SINGLES
            self.assertEqual([tuple(one[4:17]) for one in found], list(want))

    def test_both_kinds_in_one_list(self):
        calls = [begin(3), begin(0)]
        for numbers in BODIES:
            calls += [body(0, numbers), body(3, numbers)]
        for i, j, numbers in SPRINGS:
            calls += [spring(3, i, j, numbers), spring(0, i, j, numbers)]
        calls += [walls(0, ROOM), walls(3, ROOM)]
        for n in (0, 10, 15):
            calls += [step(0, n, 0.03), step(3, n, 0.03)]
        found = ask(*calls, get(0, 0, 3, 16), get(3, 0, 3, 16))
        self.assertEqual(found[-2:], [[0] + [one[12] for one in IN_DOUBLES], [0] + [one[12] for one in IN_SINGLES]])


class AnyCalls(unittest.TestCase):
    """Lists of any calls, most of them sensible, some wide of it, some refused."""

    def number(self, luck, o, style):
        way = luck.random()
        if style == "wild" and way < 0.04:
            return luck.getrandbits(64 if o < 2 else 32)
        if style != "tame" and way < 0.3:
            return bits_of(o, luck.choice((0.0, -0.0, 1.0, -1.0, 0.5, helper.number_of(o, 1))))
        if style in ("wide", "wild"):
            most = 80 if o < 2 else 12
            return bits_of(o, luck.uniform(-2, 2) * 2.0 ** luck.randint(-most, most))
        return bits_of(o, luck.uniform(-3, 3))

    def above(self, luck, o, style):
        if luck.random() < 0.01:
            return self.number(luck, o, style)
        return self.number(luck, o, style) % (1 << (63 if o < 2 else 31))

    def any_body(self, luck, o, style):
        numbers = [self.above(luck, o, style) for k in range(4)] + [self.number(luck, o, style) for k in range(3)]
        turn = [luck.gauss(0, 0.6) for k in range(4)]
        if luck.random() < 0.3:
            turn = luck.choice(([1, 0, 0, 0], [0, -1, 0, 0], [0, -0.0, 1, -0.0], [0.5, -0.5, 0.5, 0.5]))
        numbers += [bits_of(o, x) for x in turn] + [self.number(luck, o, style) for k in range(9)]
        return [helper.BODY, o, 20] + numbers

    def any_spring(self, luck, o, style, count):
        i, j = luck.randint(0, count), luck.randint(-1, count)
        if luck.random() < 0.8 and count > 1:
            i, j = luck.sample(range(count), 2)
        ends = [self.number(luck, o, style) for k in range(6)]
        if luck.random() < 0.1:
            ends = [0] * 6
        return [helper.SPRING, o, i, j, 9] + ends + [self.above(luck, o, style) for k in range(3)]

    def any_list(self, luck):
        style = luck.choice(("tame", "plain", "plain", "wide", "wild"))
        calls = []
        for o in luck.sample(range(4), 2):
            calls.append(begin(o))
            count = luck.randint(1, 3)
            calls += [self.any_body(luck, o, style) for k in range(count)]
            calls += [self.any_spring(luck, o, style, count) for k in range(luck.randint(0, 3))]
            if luck.random() < 0.5:
                calls.append(walls(o, [-1, -0.0, -2, 0.0, 1, luck.uniform(-3, 2)]))
            for turn in range(3):
                dt = luck.choice((bits_of(o, luck.uniform(-0.2, 0.2)), bits_of(o, 0.01), self.number(luck, o, style)))
                calls.append([helper.STEP, o, luck.choice((0, 1, 1, 2, 3, -1)), dt])
                calls += get_all(o, luck.choice((1, count)))
        return calls

    def test_any_calls(self):
        luck = random.Random(2026)
        moved = 0
        for turn in range(150):
            calls = self.any_list(luck)
            found = ask(*calls)
            self.assertEqual(found, second_answers(calls), calls)
            moved += sum(call[0] == helper.STEP and call[2] > 0 and answer == [0] for call, answer in zip(calls, found))
        # Lists in which nearly all steps are refused would tell little.
        self.assertGreater(moved, 200)


if __name__ == "__main__":
    unittest.main()
