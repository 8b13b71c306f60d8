"""begin, body, spring, walls and get: what is answered, what is refused, and what stays as it was."""

import unittest

import helper
from bodieswing.hall import answers
from bodieswing.kinds import make_doubles
from bodieswing.scene import Scene
from helper import INF, NAN, STILL, ask, begin, bits_of, bodies_after, body, changed, get, get_all, row
from helper import least, next_down, next_up, spring, step, walls

OBJECTS = (0, 1, 2, 3)
SPRING = [0, 0, 0, 0, 0, 0, 1, 1, 1]
ROOM = [-1, -2, -3, 1, 2, 3]


class TheList(unittest.TestCase):
    def test_how_answers_stand(self):
        calls = begin(0) + body(0, STILL) + body(0, STILL) + get(0, 0, 2, 0) + get(0, 0, 3, 0)
        one = helper.double(1.0)
        self.assertEqual(answers(calls), [1, 0, 1, 0, 1, 1, 3, 0, one, one, 1, -2])

    def test_what_is_handed_in_is_not_changed(self):
        calls = begin(0) + body(0, STILL) + walls(0, ROOM) + step(0, 2, 0.5) + get(0, 0, 1, 4)
        copy = list(calls)
        answers(calls)
        self.assertEqual(calls, copy)

    def test_nothing_is_kept(self):
        first = begin(0) + body(0, STILL) + body(0, STILL) + spring(0, 0, 1, SPRING) + walls(0, ROOM)
        second = begin(0) + body(0, changed(STILL, {11: 8})) + step(0, 1, 1.0) + get(0, 0, 1, 4)
        want = answers(second)
        answers(first)
        self.assertEqual(answers(second), want)
        self.assertEqual(want, [1, 0, 1, 0, 1, 0, 2, 0, helper.double(8.0)])

    def test_a_list_of_whole_numbers_comes_back(self):
        given = answers(begin(2) + body(2, STILL) + get(2, 0, 1, 7))
        self.assertIs(type(given), list)
        self.assertEqual({type(x) for x in given}, {int})


class Begin(unittest.TestCase):
    def test_answers_0(self):
        for o in OBJECTS:
            self.assertEqual(ask(begin(o), begin(o)), [[0], [0]])

    def test_nothing_is_there(self):
        for o in OBJECTS:
            self.assertEqual(ask(begin(o), get(o, 0, 0, 0), get(o, 0, 1, 0), spring(o, 0, 1, SPRING)),
                             [[0], [0], [-2], [-2]])

    def test_begun_again_nothing_is_left(self):
        for o in OBJECTS:
            flying = changed(STILL, {11: 8})
            found = ask(begin(o), body(o, STILL), body(o, STILL), spring(o, 0, 1, SPRING), spring(o, 1, 0, SPRING),
                        walls(o, ROOM), begin(o), get(o, 0, 1, 0), body(o, flying),
                        body(o, changed(STILL, {5: 2})), step(o, 1, 1.0), get(o, 0, 2, 4),
                        get(o, 0, 2, 12), spring(o, 0, 1, SPRING))
            # Number 8 is beyond the walls of before, and no spring pulled.
            self.assertEqual(found[6:], [[0], [-2], [0], [1], [0], [0, bits_of(o, 8.0), 0], [0, 0, 0], [0]])

    def test_objects_are_apart(self):
        calls = [begin(o) for o in OBJECTS]
        calls += [body(o, changed(STILL, {4: o})) for o in OBJECTS for k in range(o + 1)]
        calls += [walls(1, ROOM), walls(2, ROOM), begin(2)]
        calls += [get(o, 0, o + 1, 4) for o in OBJECTS]
        found = ask(*calls)
        self.assertEqual(found[4:14], [[0], [0], [1], [0], [1], [2], [0], [1], [2], [3]])
        self.assertEqual(found[-4:], [[0, 0], [0] + [bits_of(1, 1.0)] * 2, [-2], [0] + [bits_of(3, 3.0)] * 4])

    def test_kinds(self):
        # 1 by the root of 2, as a double and as a single.
        tilted = changed(STILL, {7: 1.0, 8: 1.0})
        found = ask(begin(0), begin(1), begin(2), begin(3), *[body(o, tilted) for o in OBJECTS],
                    *[get(o, 0, 1, 7) for o in OBJECTS])
        self.assertEqual(found[-4:], [[0, 0x3FE6A09E667F3BCC], [0, 0x3FE6A09E667F3BCC], [0, 0x3F3504F3],
                                      [0, 0x3F3504F3]])


class Body(unittest.TestCase):
    def test_its_number(self):
        for o in OBJECTS:
            self.assertEqual(ask(begin(o), *[body(o, STILL) for k in range(5)])[1:], [[0], [1], [2], [3], [4]])

    def test_its_numbers_are_kept(self):
        for o in OBJECTS:
            numbers = [0.5, 0.25, 2, -0.0, -7, 8, 9, 0, 0, -1, -0.0, 3, -4, 5, -6, 7, least(o), 1e30, -0.0, -1e-30]
            self.assertEqual(bodies_after(o, 1, begin(o), body(o, numbers)), [[bits_of(o, x) for x in numbers]])

    def test_its_turn_is_made_one_long(self):
        for o in OBJECTS:
            for turn, want in (((1, 1, 1, 1), (0.5,) * 4), ((0, -2, 0, -0.0), (0, -1, 0, -0.0)),
                               ((0.5, 0, 0, 0), (1, 0, 0, 0)), ((-0.75, 0, 1, 0), (-0.6, 0, 0.8, 0))):
                numbers = STILL[0:7] + list(turn) + STILL[11:]
                found = bodies_after(o, 1, begin(o), body(o, numbers))[0]
                self.assertEqual(found[7:11], [bits_of(o, x) for x in want])

    def test_not_finite(self):
        for o in (0, 2):
            for k in range(20):
                for x in (INF, -INF, NAN):
                    self.assertEqual(ask(begin(o), body(o, changed(STILL, {k: x})), body(o, STILL))[1:], [[-3], [0]])

    def test_the_first_four_below_0(self):
        for o in (0, 2):
            for k in list(range(7)) + list(range(11, 20)):
                found = ask(begin(o), body(o, changed(STILL, {k: -least(o)})), body(o, changed(STILL, {k: -1})))
                self.assertEqual(found[1:], [[-3], [-3]] if k < 4 else [[0], [1]])
            zeros = changed(STILL, {0: -0.0, 1: -0.0, 2: -0.0, 3: -0.0})
            self.assertEqual(ask(begin(o), body(o, zeros))[1], [0])

    def test_the_turns_square(self):
        for o in (0, 2):
            for k in range(7, 11):
                none = changed(STILL, {7: 0})
                for x, want in ((0, -3), (0.5, 0), (-0.5, 0), (next_down(o, 0.5), -3), (2, 0), (-2, 0),
                                (next_up(o, 2), -3), (-next_up(o, 2), -3), (1e30, -3)):
                    self.assertEqual(ask(begin(o), body(o, changed(none, {k: x})))[1], [want], (o, k, x))
            self.assertEqual(ask(begin(o), body(o, changed(STILL, {7: 1, 8: 1, 9: 1, 10: 1})))[1], [0])
            # 4 and a little more than half a unit: it would be 4 if the last product were rounded by itself.
            self.assertEqual(ask(begin(o), body(o, changed(STILL, {7: 1, 8: 1, 9: 1, 10: next_up(o, 1)})))[1], [-3])
            self.assertEqual(ask(begin(o), body(o, changed(STILL, {7: 1, 8: 1, 9: 1, 10: next_down(o, 1)})))[1], [0])

    def test_the_turns_square_fails(self):
        great = {0: 1e200, 2: 1e30}
        for o in (0, 2):
            for k in range(7, 11):
                self.assertEqual(ask(begin(o), body(o, changed(STILL, {k: great[o]})))[1], [-3])

    def test_no_more_than_4096(self):
        scene = Scene(make_doubles())
        bits = row(0, STILL)[1:]
        for k in range(4096):
            self.assertEqual(scene.add_body(bits), k)
        self.assertEqual(scene.add_body(bits), -1)
        # Of two refusals it's the first.
        self.assertEqual(scene.add_body(changed(bits, {0: helper.double(INF)})), -3)
        self.assertEqual(scene.add_body(changed(bits, {7: 0})), -3)
        self.assertEqual(len(scene.bodies), 4096)

    def test_refused_it_is_as_it_was(self):
        for o in OBJECTS:
            numbers = changed(STILL, {4: 5, 14: 0.5})
            want = bodies_after(o, 1, begin(o), body(o, numbers))
            found = ask(begin(o), body(o, numbers), body(o, changed(STILL, {3: -1})), get(o, 0, 2, 0),
                        *get_all(o, 1), body(o, STILL))
            self.assertEqual(found[2:4], [[-3], [-2]])
            self.assertEqual(found[4:24], [[0, x] for x in want[0]])
            self.assertEqual(found[24], [1])


class Spring(unittest.TestCase):
    def two(self, o):
        return [begin(o), body(o, STILL), body(o, changed(STILL, {4: 3}))]

    def test_its_number(self):
        for o in OBJECTS:
            found = ask(*self.two(o), spring(o, 0, 1, SPRING), spring(o, 1, 0, SPRING), spring(o, 0, 1, SPRING))
            self.assertEqual(found[3:], [[0], [1], [2]])

    def test_no_such_body(self):
        for o in OBJECTS:
            for i, j in ((-1, 0), (0, -1), (2, 0), (0, 2), (0, 0), (1, 1), (-1, -1), (5, 5), (-2, 1), (1, -2),
                         (2147483647, 0), (0, -2147483648)):
                self.assertEqual(ask(*self.two(o), spring(o, i, j, SPRING), spring(o, 0, 1, SPRING))[3:], [[-2], [0]])

    def test_not_finite(self):
        for o in (0, 2):
            for k in range(9):
                for x in (INF, -INF, NAN):
                    found = ask(*self.two(o), spring(o, 0, 1, changed(SPRING, {k: x})), spring(o, 0, 1, SPRING))
                    self.assertEqual(found[3:], [[-3], [0]])

    def test_the_last_three_below_0(self):
        for o in (0, 2):
            for k in range(9):
                for x, want in ((-least(o), [-3]), (-1, [-3]), (-0.0, [0])):
                    found = ask(*self.two(o), spring(o, 0, 1, changed(SPRING, {k: x})))[3]
                    self.assertEqual(found, want if k > 5 else [0])

    def test_the_first_refusal_is_told(self):
        for o in OBJECTS:
            bad = changed(SPRING, {0: NAN, 6: -1})
            found = ask(*self.two(o), spring(o, 0, 2, bad), spring(o, 1, 1, bad), spring(o, 1, 0, bad))
            self.assertEqual(found[3:], [[-2], [-2], [-3]])

    def test_no_more_than_8192(self):
        scene = Scene(make_doubles())
        scene.add_body(row(0, STILL)[1:])
        scene.add_body(row(0, STILL)[1:])
        bits = row(0, SPRING)[1:]
        for k in range(8192):
            self.assertEqual(scene.add_spring(k % 2, 1 - k % 2, bits), k)
        self.assertEqual(scene.add_spring(0, 1, bits), -1)
        self.assertEqual(scene.add_spring(0, 1, changed(bits, {8: helper.double(-1.0)})), -3)
        self.assertEqual(scene.add_spring(0, 2, bits), -2)
        self.assertEqual(len(scene.springs), 8192)

    def test_refused_nothing_pulls(self):
        for o in OBJECTS:
            want = bodies_after(o, 2, *self.two(o), step(o, 1, 0.5))
            refused = [spring(o, 0, 0, SPRING), spring(o, 0, 2, SPRING), spring(o, 0, 1, changed(SPRING, {7: -1}))]
            self.assertEqual(bodies_after(o, 2, *self.two(o), *refused, step(o, 1, 0.5)), want)


class Walls(unittest.TestCase):
    def test_nobody_moves_yet(self):
        for o in OBJECTS:
            outside = changed(STILL, {4: 50, 5: -50, 6: 4, 11: 2, 12: -2, 13: 3})
            found = bodies_after(o, 1, begin(o), body(o, outside), walls(o, ROOM))
            self.assertEqual(found, [[bits_of(o, x) for x in outside]])

    def test_not_finite(self):
        for o in (0, 2):
            for k in range(6):
                for x in (INF, -INF, NAN):
                    self.assertEqual(ask(begin(o), walls(o, changed(ROOM, {k: x}))), [[0], [-3]])

    def test_the_greatest_below_the_least(self):
        for o in (0, 2):
            for k in range(3):
                for low, high, want in ((1, 1, 0), (1, next_down(o, 1), -3), (-1, -1, 0), (-1, -next_up(o, 1), -3),
                                        (0.0, -0.0, 0), (-0.0, 0.0, 0), (0, -least(o), -3), (-least(o), 0, 0)):
                    found = ask(begin(o), walls(o, changed(ROOM, {k: low, k + 3: high})))
                    self.assertEqual(found[1], [want], (o, k, low, high))

    def test_others_in_their_place(self):
        for o in OBJECTS:
            flying = changed(STILL, {11: 100})
            near = changed(ROOM, {3: 0.5})
            found = ask(begin(o), body(o, flying), walls(o, ROOM), walls(o, near), step(o, 1, 1.0), get(o, 0, 1, 4))
            self.assertEqual(found[-1], [0, bits_of(o, 0.5)])

    def test_refused_they_are_as_they_were(self):
        for o in OBJECTS:
            flying = changed(STILL, {11: 100})
            for bad in (changed(ROOM, {3: INF}), changed(ROOM, {3: -2})):
                found = ask(begin(o), body(o, flying), walls(o, ROOM), walls(o, bad), step(o, 1, 1.0), get(o, 0, 1, 4))
                self.assertEqual(found[-3:], [[-3], [0], [0, bits_of(o, 1.0)]])
                found = ask(begin(o), body(o, flying), walls(o, bad), step(o, 1, 1.0), get(o, 0, 1, 4))
                self.assertEqual(found[-3:], [[-3], [0], [0, bits_of(o, 100.0)]])


class Get(unittest.TestCase):
    def three(self, o):
        return [begin(o)] + [body(o, [100 * k + what if what not in (7, 8, 9, 10) else int(what == 7 + k)
                                      for what in range(20)]) for k in range(3)]

    def test_the_what_th_of_some(self):
        for o in OBJECTS:
            for what in (0, 1, 3, 4, 6, 11, 13, 14, 16, 17, 19):
                found = ask(*self.three(o), get(o, 0, 3, what), get(o, 1, 2, what), get(o, 2, 1, what))[4:]
                every = [bits_of(o, 100.0 * k + what) for k in range(3)]
                self.assertEqual(found, [[0] + every, [0] + every[1:], [0] + every[2:]])
            self.assertEqual(ask(*self.three(o), get(o, 0, 3, 8))[4], [0, 0, bits_of(o, 1.0), 0])

    def test_none_of_them(self):
        for o in OBJECTS:
            found = ask(*self.three(o), get(o, 0, 0, 0), get(o, 3, 0, 19), get(o, 4, 0, 0))[4:]
            self.assertEqual(found, [[0], [0], [-2]])

    def test_refusals(self):
        most = 2147483647
        for o in OBJECTS:
            for first, n, what in ((-1, 1, 0), (-1, 0, 0), (0, -1, 0), (1, -1, 0), (0, 4, 0), (1, 3, 0), (3, 1, 0),
                                   (0, 1, -1), (0, 1, 20), (0, 0, 20), (0, 0, -1), (most, most, 0),
                                   (-most - 1, most, 0), (-1, 2, 0), (4, -2, 0), (0, 1, most), (0, 1, -most - 1)):
                self.assertEqual(ask(*self.three(o), get(o, first, n, what))[4], [-2], (first, n, what))

    def test_it_changes_nothing(self):
        for o in OBJECTS:
            calls = self.three(o)
            found = ask(*calls, *get_all(o, 3), get(o, 0, 4, 0), *get_all(o, 3))
            self.assertEqual(found[4:24], found[25:45])


if __name__ == "__main__":
    unittest.main()
