"""The calls: a list of them is read call by call, and each is answered."""

from bodieswing.kinds import make_doubles, make_singles
from bodieswing.scene import Scene


class Reader:
    """Reads a list of whole numbers from its beginning on, and leaves it as it is."""

    def __init__(self, calls):
        self.calls = calls
        self.at = 0

    def is_done(self):
        return self.at >= len(self.calls)

    def take(self):
        self.at += 1
        return self.calls[self.at - 1]

    def take_row(self):
        length = self.take()
        self.at += length
        return self.calls[self.at - length:self.at]


def kind_of(o):
    return make_doubles() if o < 2 else make_singles()


def other_kind_than(o):
    return make_singles() if o < 2 else make_doubles()


def begin(scenes, reader):
    o = reader.take()
    scenes[o] = Scene(kind_of(o))
    return [0]


def body(scenes, reader):
    scene = scenes[reader.take()]
    return [scene.add_body(reader.take_row())]


def spring(scenes, reader):
    scene = scenes[reader.take()]
    i = reader.take()
    j = reader.take()
    return [scene.add_spring(i, j, reader.take_row())]


def walls(scenes, reader):
    scene = scenes[reader.take()]
    return [scene.set_walls(reader.take_row())]


def step(scenes, reader):
    scene = scenes[reader.take()]
    n = reader.take()
    return [scene.step(n, reader.take())]


def get(scenes, reader):
    scene = scenes[reader.take()]
    first = reader.take()
    n = reader.take()
    return scene.tell(first, n, reader.take())


def put(scenes, reader):
    scene = scenes[reader.take()]
    first = reader.take()
    what = reader.take()
    return [scene.put(first, what, reader.take_row())]


def sums(scenes, reader):
    return scenes[reader.take()].sums()


def box(scenes, reader):
    return scenes[reader.take()].box()


def slow(scenes, reader):
    scene = scenes[reader.take()]
    limit = reader.take()
    return scene.slow(limit, reader.take())


def points(scenes, reader):
    scene = scenes[reader.take()]
    first = reader.take()
    n = reader.take()
    return scene.points(first, n, reader.take_row())


def frame(scenes, reader):
    o = reader.take()
    first = reader.take()
    n = reader.take()
    return scenes[o].frame(first, n, other_kind_than(o))


CALLS = {
    0: begin, 1: body, 2: spring, 3: walls, 4: step, 5: get,
    6: put, 7: sums, 8: box, 9: slow, 10: points, 11: frame,
}


def answers(calls):
    """What each of the calls is answered, with how many numbers that is before it."""
    reader = Reader(calls)
    scenes = {}
    given = []
    while not reader.is_done():
        answer = CALLS[reader.take()](scenes, reader)
        given.append(len(answer))
        given.extend(answer)
    return given
