"""The calls: a list of them is read call by call, and each is answered."""

from bodieswing.kinds import make_doubles, make_singles
from bodieswing.scene import Scene


class UnknownCall(ValueError):
    """A call has a number that no call is known by."""


class Reader:
    """Reads a list of whole numbers from its beginning on, and leaves it as it is."""

    def __init__(self, calls):
        self.calls = calls
        self.at = 0

    def is_done(self):
        return self.at >= len(self.calls)

    def take(self):
        self.at += 1
        return self.calls[self.at - 1]

    def take_row(self):
        length = self.take()
        self.at += length
        return self.calls[self.at - length:self.at]


def begin(scenes, reader):
    o = reader.take()
    scenes[o] = Scene(make_doubles() if o < 2 else make_singles())
    return [0]


def body(scenes, reader):
    scene = scenes[reader.take()]
    return [scene.add_body(reader.take_row())]


def spring(scenes, reader):
    scene = scenes[reader.take()]
    i = reader.take()
    j = reader.take()
    return [scene.add_spring(i, j, reader.take_row())]


def walls(scenes, reader):
    scene = scenes[reader.take()]
    return [scene.set_walls(reader.take_row())]


def step(scenes, reader):
    scene = scenes[reader.take()]
    n = reader.take()
    return [scene.step(n, reader.take())]


def get(scenes, reader):
    scene = scenes[reader.take()]
    first = reader.take()
    n = reader.take()
    return scene.tell(first, n, reader.take())


CALLS = {0: begin, 1: body, 2: spring, 3: walls, 4: step, 5: get}


def answers(calls):
    """What each of the calls is answered, with how many numbers that is before it."""
    reader = Reader(calls)
    scenes = {}
    given = []
    while not reader.is_done():
        number = reader.take()
        if number not in CALLS:
            raise UnknownCall(f"there is no call {number}")
        answer = CALLS[number](scenes, reader)
        given.append(len(answer))
        given.extend(answer)
    return given
