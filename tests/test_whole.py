"""Whole lists of calls: bits that a machine's own numbers gave, and lists of any calls against the second working-out."""

import contextlib
import io
import random
import unittest

import helper
from bodieswing.hall import answers
from helper import STILL, ask, begin, bits_of, bodies_after, body, box, changed, frame, get, get_all, parts, points, put
from helper import second_answers, slow, spring, step, sums, walls

BODIES = (
    [0.75, 0.5, 1.25, 2.0, 0.1, -0.2, 0.3, 0.9, 0.1, -0.3, 0.2, 0.4, -0.7, 0.2, 0.6, -0.5, 0.8, 0.05, -9.81, 0.02],
    [1.5, 0.7, 0.3, 1.1, 1.3, 0.4, -0.6, 0.2, -0.8, 0.5, 0.3, -0.9, 0.3, 1.7, -1.2, 0.4, 0.9, 0.0, -9.81, 0.1],
    [0.0, 1.9, 0.2, 0.6, -1.1, 0.9, 0.7, -0.4, 0.4, 0.6, -0.7, 0.0, 0.0, 0.0, 0.3, 2.1, -0.4, 0.0, 0.0, 0.0],
)
SPRINGS = (
    (0, 1, [0.3, -0.1, 0.2, -0.4, 0.15, 0.05, 31.7, 0.9, 0.8]),
    (1, 2, [0.1, 0.2, -0.3, 0.0, 0.6, 0.1, 12.3, 0.35, 1.1]),
    (2, 0, [-0.2, 0.1, 0.45, 0.25, 0.0, -0.35, 7.9, 1.6, 0.5]),
)
ROOM = [-1.15, -1.25, -0.65, 1.35, 1.05, 0.75]
# Place, turn, momentum and spin of the three after 25 steps of 0.03, as a C program with fma and fmaf found them.
IN_DOUBLES = (
    (0xBFF17AC1971E6B1F, 0xBFEFD82DB7D38CD1, 0x3FD50C86B4B413CF, 0x3FC7D6D5CB09EA31, 0x3FD1EC7370DFF2A8,
     0xBFE3DCE73801061F, 0x3FE6A9D7717BC063, 0xBFF6B1F046CE5383, 0x400FF02611609E80, 0xC0026AC478FC3B96,
     0x3FE348F865B60444, 0xBFCF02F0256EE948, 0x400423BBA56A2512),
    (0x3FB3895B28692CFB, 0xBFE76EAB2E75BC83, 0xBFE22C913E9B1356, 0x3F7F1014EAB7A9CB, 0xBFE87857C7DC649C,
     0x3FE2AEED314ABD42, 0x3FD17226AB112E8A, 0xBFD70FD45F467053, 0x3FEAC29D530D7344, 0x3FEFBA7B970085A3,
     0xBFE5CC4AEE84EDC3, 0xBFB8D56D9146BECD, 0x3FE1A35474B6AE48),
    (0xBFF199999999999A, 0x3FECCCCCCCCCCCCD, 0x3FE6666666666666, 0xBFC0433349D396DD, 0x3FD53A8223643B8B,
     0x3FDEC9839D6733F9, 0xBFE9A604079DBCAB, 0x40230C2536B155B1, 0xC01FC3EE38EE977A, 0xBFFE2FB549F7CC7F,
     0xBFF7B3D7333F5C46, 0xBFEA51D040E82A0D, 0x401049A2043D10FB),
)
IN_SINGLES = (
    (0xBF8BD60E, 0xBF7EC16E, 0x3EA86432, 0x3E3EB6B1, 0x3E8F639B, 0xBF1EE738, 0x3F354EBC, 0xBFB58F83, 0x407F8132,
     0xC0135627, 0x3F1A47B8, 0xBE781778, 0x40211DDE),
    (0x3D9C4AD3, 0xBF3B7558, 0xBF11648B, 0x3BF8814E, 0xBF43C2BD, 0x3F15776D, 0x3E8B9136, 0xBEB87EB2, 0x3F5614EB,
     0x3F7DD3DF, 0xBF2E624E, 0xBDC6ABBA, 0x3F0D1AA5),
    (0xBF8CCCCD, 0x3F666666, 0x3F333333, 0xBE02199C, 0x3EA9D415, 0x3EF64C1F, 0xBF4D301F, 0x41186126, 0xC0FE1F6F,
     0xBFF17DA0, 0xBFBD9EBF, 0xBF528E7E, 0x40824D11),
)
# What sums answers for 37 of some_body and 41 of some_spring, as a C program with fma and fmaf found it.
SUMS_IN_DOUBLES = [
    0x40070F91EC726BE8, 0xBFF2096A17E5EDE4, 0xC0148C7E022C2CE7, 0x40142FDE36D48B92, 0x3FEE74E52C3E5665,
    0xC007C8D18321AE8E, 0x40376E2AD7DEE6FA, 0x40309CBB01335398, 0x404ED7324CEB5C90, 0x40596E529CBA3CEC]
SUMS_IN_SINGLES = [
    0x40387C8E, 0xBF904B52, 0xC0A463F0, 0x40A17EF2, 0x3F73A734, 0xC03E468D, 0x41BB7157, 0x4184E5D8, 0x4276B994,
    0x42CB7296]


def some_number(k, what):
    return ((k * 7919 + what * 104729) % 2003 - 1001) / 707


def some_body(k):
    numbers = [some_number(k, what) for what in range(20)]
    return [abs(x) for x in numbers[0:4]] + numbers[4:7] + [1.0] + [x / 2 for x in numbers[8:11]] + numbers[11:]


def some_spring(k):
    """Its two bodies of 37, and its numbers."""
    numbers = [some_number(k, what) for what in range(20, 29)]
    return k % 37, (k + 1 + k % 5) % 37, numbers[0:6] + [abs(x) for x in numbers[6:]]


class FromAMachine(unittest.TestCase):
    def test_sums_of_many(self):
        for o in (0, 1, 2, 3):
            calls = [begin(o)] + [body(o, some_body(k)) for k in range(37)]
            calls += [spring(o, *some_spring(k)) for k in range(41)]
            self.assertEqual(ask(*calls, sums(o))[-1], [0] + (SUMS_IN_DOUBLES if o < 2 else SUMS_IN_SINGLES))

    def test_three_bodies_on_three_springs(self):
        for o in (0, 1, 2, 3):
            calls = [begin(o)] + [body(o, numbers) for numbers in BODIES]
            calls += [spring(o, i, j, numbers) for i, j, numbers in SPRINGS]
            found = bodies_after(o, 3, *calls, walls(o, ROOM), step(o, 25, 0.03))
            want = IN_DOUBLES if o < 2 else IN_SINGLES
            self.assertEqual([tuple(one[4:17]) for one in found], list(want))

    def test_both_kinds_in_one_list(self):
        calls = [begin(3), begin(0)]
        for numbers in BODIES:
            calls += [body(0, numbers), body(3, numbers)]
        for i, j, numbers in SPRINGS:
            calls += [spring(3, i, j, numbers), spring(0, i, j, numbers)]
        calls += [walls(0, ROOM), walls(3, ROOM)]
        for n in (0, 10, 15):
            calls += [step(0, n, 0.03), step(3, n, 0.03)]
        found = ask(*calls, get(0, 0, 3, 16), get(3, 0, 3, 16))
        self.assertEqual(found[-2:], [[0] + [one[12] for one in IN_DOUBLES], [0] + [one[12] for one in IN_SINGLES]])


class AnyCalls(unittest.TestCase):
    """Lists of any calls, most of them sensible, some wide of it, some refused."""

    def number(self, luck, o, style):
        way = luck.random()
        if style == "wild" and way < 0.04:
            return luck.getrandbits(64 if o < 2 else 32)
        if style != "tame" and way < 0.3:
            return bits_of(o, luck.choice((0.0, -0.0, 1.0, -1.0, 0.5, helper.number_of(o, 1))))
        if style in ("wide", "wild"):
            most = 80 if o < 2 else 12
            return bits_of(o, luck.uniform(-2, 2) * 2.0 ** luck.randint(-most, most))
        return bits_of(o, luck.uniform(-3, 3))

    def above(self, luck, o, style):
        if luck.random() < 0.01:
            return self.number(luck, o, style)
        return self.number(luck, o, style) % (1 << (63 if o < 2 else 31))

    def any_body(self, luck, o, style):
        numbers = [self.above(luck, o, style) for k in range(4)] + [self.number(luck, o, style) for k in range(3)]
        turn = [luck.gauss(0, 0.6) for k in range(4)]
        if luck.random() < 0.3:
            turn = luck.choice(([1, 0, 0, 0], [0, -1, 0, 0], [0, -0.0, 1, -0.0], [0.5, -0.5, 0.5, 0.5]))
        numbers += [bits_of(o, x) for x in turn] + [self.number(luck, o, style) for k in range(9)]
        return [helper.BODY, o, 20] + numbers

    def any_spring(self, luck, o, style, count):
        i, j = luck.randint(0, count), luck.randint(-1, count)
        if luck.random() < 0.8 and count > 1:
            i, j = luck.sample(range(count), 2)
        ends = [self.number(luck, o, style) for k in range(6)]
        if luck.random() < 0.1:
            ends = [0] * 6
        return [helper.SPRING, o, i, j, 9] + ends + [self.above(luck, o, style) for k in range(3)]

    def any_look(self, luck, o, style, count):
        """One of the calls from put on, mostly one that isn't refused."""
        first = luck.randint(0, count) if luck.random() < 0.9 else luck.randint(-2, count + 2)
        n = luck.randint(0, max(count - first, 0)) if luck.random() < 0.9 else luck.randint(-1, count + 1)
        which = luck.choice((helper.PUT, helper.PUT, helper.SUMS, helper.BOX, helper.SLOW, helper.POINTS, helper.FRAME))
        if which == helper.PUT:
            numbers = [self.number(luck, o, style) for k in range(max(n, 0))]
            what = luck.choice((4, 5, 6, 11, 12, 13, 14, 15, 16, 17, 18, 19))
            if luck.random() < 0.1:
                what = luck.randint(-2, 22)
            return [which, o, first, what, len(numbers)] + numbers
        if which == helper.SLOW:
            limit = bits_of(o, luck.choice((0.5, 1, 2, 4, 16))) if luck.random() < 0.7 else self.number(luck, o, style)
            return [which, o, limit, luck.choice((0, 1, 2, 4, 4096, -1, 4097))]
        if which == helper.POINTS:
            return [which, o, first, n, 3] + [self.number(luck, o, style) for k in range(3)]
        return [which, o] if which in (helper.SUMS, helper.BOX) else [which, o, first, n]

    def any_list(self, luck):
        style = luck.choice(("tame", "plain", "plain", "wide", "wild"))
        calls = []
        for o in luck.sample(range(4), 2):
            calls.append(begin(o))
            count = luck.randint(1, 3)
            calls += [self.any_body(luck, o, style) for k in range(count)]
            calls += [self.any_spring(luck, o, style, count) for k in range(luck.randint(0, 3))]
            if luck.random() < 0.5:
                calls.append(walls(o, [-1, -0.0, -2, 0.0, 1, luck.uniform(-3, 2)]))
            for turn in range(3):
                dt = luck.choice((bits_of(o, luck.uniform(-0.2, 0.2)), bits_of(o, 0.01), self.number(luck, o, style)))
                calls.append([helper.STEP, o, luck.choice((0, 1, 1, 2, 3, -1)), dt])
                calls += get_all(o, luck.choice((1, count)))
                calls += [self.any_look(luck, o, style, count) for k in range(8)]
        return calls

    def many_bodies(self, luck, o, style):
        """More bodies and springs than there are sums side by side, then looks and steps in turn."""
        count = luck.choice((7, 8, 9, 15, 16, 17, 20, 35))
        calls = [begin(o)] + [self.any_body(luck, o, style) for k in range(count)]
        calls += [self.any_spring(luck, o, style, count) for k in range(luck.choice((7, 8, 9, 16, 17, 20, 34)))]
        calls.append(sums(o))
        for turn in range(2):
            calls += [self.any_look(luck, o, style, count) for k in range(10)]
            calls.append(sums(o))
        return calls + [step(o, 1, 0.01), sums(o), box(o)]

    def test_any_calls(self):
        luck = random.Random(2026)
        moved = 0
        for turn in range(150):
            calls = self.any_list(luck)
            found = ask(*calls)
            self.assertEqual(found, second_answers(calls), calls)
            moved += sum(call[0] == helper.STEP and call[2] > 0 and answer == [0] for call, answer in zip(calls, found))
        # Lists in which nearly all steps are refused would tell little.
        self.assertGreater(moved, 200)

    def test_many_bodies(self):
        luck = random.Random(1116)
        given = {}
        for turn in range(16):
            calls = self.many_bodies(luck, turn % 4, luck.choice(("tame", "plain", "wide", "wild")))
            found = ask(*calls)
            self.assertEqual(found, second_answers(calls), calls)
            for call, answer in zip(calls, found):
                if answer[0] >= 0:
                    given[call[0]] = given.get(call[0], 0) + 1
        for which in range(helper.PUT, helper.FRAME + 1):
            self.assertGreater(given[which], 20)

    def test_frames_of_any_bits(self):
        luck = random.Random(7)
        for o in (0, 1, 2, 3):
            for turn in range(60):
                bits = [luck.getrandbits(64 if o < 2 else 32) for k in range(9)]
                if o < 2 and turn % 5:
                    # Doubles about as great as singles may be, some with so few bits that two singles are as near.
                    kept = luck.choice((52, 24, 23))
                    bits = [luck.getrandbits(1) << 63 | luck.randint(860, 1160) << 52 | luck.getrandbits(kept) << (52 - kept)
                            for k in range(9)]
                calls = [begin(o)] + [body(o, STILL)] * 3
                calls += [[helper.PUT, o, 0, 4 + k, 3] + bits[3 * k:3 * k + 3] for k in range(3)] + [frame(o, 0, 3)]
                self.assertEqual(ask(*calls), second_answers(calls))


def one_of_each(o, k):
    """All twelve calls on one object, with a few that are refused; k makes the numbers others."""
    return [
        begin(o), body(o, some_body(k)), body(o, some_body(k + 1)), body(o, changed(STILL, {0: -1})),
        spring(o, 0, 1, some_spring(k)[2]), spring(o, 0, 2, some_spring(k)[2]), walls(o, ROOM), sums(o), box(o),
        step(o, 2, 0.05), get(o, 0, 2, 4), get(o, 0, 3, 4), put(o, 0, 11, [0.5 + k, -k]), put(o, 0, 7, [1]), sums(o),
        slow(o, 1.5, 1), slow(o, 1.5, -1), points(o, 0, 2, [0.1, 0.2, 0.3]), points(o, 2, 1, [0.1, 0.2, 0.3]), box(o),
        frame(o, 0, 2), frame(o, -1, 2), step(o, 3, 0.05), step(o, -1, 0.05), get(o, 1, 1, 16), sums(o), frame(o, 1, 1)]


class WholeLists(unittest.TestCase):
    def test_all_twelve_on_all_objects(self):
        each = {o: one_of_each(o, 3 * o) for o in range(4)}
        alone = {o: ask(*each[o]) for o in range(4)}
        self.assertEqual({call[0] for call in each[0]}, set(range(12)))
        luck = random.Random(3)
        for turn in range(4):
            # Which object is next is by luck; each one's calls keep their order.
            order = [o for o in range(4) for call in each[o]]
            luck.shuffle(order)
            left = {o: list(each[o]) for o in range(4)}
            calls = [left[o].pop(0) for o in order]
            found = {o: [] for o in range(4)}
            for o, answer in zip(order, ask(*calls)):
                found[o].append(answer)
            self.assertEqual(found, alone)
        for o in range(4):
            self.assertEqual(alone[o], second_answers(each[o]))

    def longest(self):
        """300 calls, 16000 numbers, on all four objects."""
        calls = [begin(o) for o in range(4)]
        calls += [body(o, some_body(k)) for k in range(60) for o in range(4)]
        calls += [spring(o, k, k + 1, some_spring(k)[2]) for k in range(6) for o in range(4)]
        calls += [sums(0), sums(2), step(0, 1, 0.01), step(3, 1, 0.01), slow(1, 1, 60), points(2, 0, 60, [1, 2, 3])]
        calls += [box(o) for o in range(4)] + [frame(o, 0, 60) for o in range(4)]
        calls += [put(o, 0, 4, [some_number(k, 30) for k in range(60)]) for o in range(4)]
        calls += [get(o, 0, 60, 4) for o in range(4)] + [put(1, 0, 11, [1.0] * 4096), put(2, 0, 4, [0.5] * 4096)]
        calls += [get(0, 0, 60, 7)] * (299 - len(calls))
        rest = 16000 - sum(len(call) for call in calls) - 5
        return calls + [put(3, 0, 4, [0.5] * rest)]

    def test_as_long_as_may_be(self):
        calls = self.longest()
        flat = [x for call in calls for x in call]
        self.assertEqual((len(calls), len(flat)), (300, 16000))
        copy = list(flat)
        given = answers(flat)
        self.assertEqual(flat, copy)
        found = parts(given)
        self.assertEqual(found, second_answers(calls))
        self.assertEqual([len(x) for x in found[268:282]], [11, 11, 1, 1, len(found[272]), 181, 7, 7, 7, 7] + [421] * 4)
        self.assertEqual(found[290:292] + found[299:], [[-2]] * 3)
        # Once more, all is as if for the first time.
        self.assertEqual(answers(flat), given)

    def test_one_call(self):
        for o in range(4):
            self.assertEqual(answers([0, o]), [1, 0])

    def test_what_is_handed_in_and_given(self):
        flat = [x for o in range(4) for call in one_of_each(o, o) for x in call]
        copy = list(flat)
        given = answers(flat)
        self.assertEqual(flat, copy)
        self.assertEqual({type(x) for x in given}, {int})
        # What is given is the caller's own: changing it changes no later answer.
        want = list(given)
        given.clear()
        self.assertEqual(answers(flat), want)

    def test_nothing_is_printed_or_read(self):
        flat = [x for o in range(4) for call in one_of_each(o, o) for x in call]
        out, err = io.StringIO(), io.StringIO()
        with contextlib.redirect_stdout(out), contextlib.redirect_stderr(err):
            answers(flat)
        self.assertEqual((out.getvalue(), err.getvalue()), ("", ""))


if __name__ == "__main__":
    unittest.main()
