"""A record's calls made one by one, each answered through the one interface."""

from reelcutdesk.records import answers
from tests.reels import listed, part

MOST_CALLS = 200
MOST_NUMBERS = 18000


def split(told):
    rows = []
    at = 0
    while at < len(told):
        rows.append(told[at + 1:at + 1 + told[at]])
        at += 1 + told[at]
    return rows


class Desk:
    """The answers hang on the calls alone, so each call is made with all those before it."""

    def __init__(self):
        self.calls = []
        self.count = 0

    def call(self, numbers):
        self.calls += numbers
        self.count += 1
        if self.count > MOST_CALLS or len(self.calls) > MOST_NUMBERS:
            raise AssertionError("more calls than a line may have")
        rows = split(answers(list(self.calls)))
        if len(rows) != self.count:
            raise AssertionError("an answer is missing")
        return rows[-1]

    def judge(self, data):
        return self.call([0, len(data)] + list(data))

    def read(self, mend):
        return self.call([1, mend])

    def feed(self, last, data=()):
        return self.call([2, last, len(data)] + list(data))

    def next(self):
        return self.call([3])

    def stream(self, k):
        return self.call([4, k])

    def find(self, which, time):
        return self.call([5, which, time])

    def write(self, numbers):
        return self.call([6, len(numbers)] + list(numbers))

    def put(self, one):
        which, time, length, flags, data = one
        return self.call([7, which, flags, time, length, len(data)] + list(data))

    def end(self):
        return self.call([8])

    def seek(self, data):
        return self.call([9, len(data)] + list(data))


def judge(data):
    return Desk().judge(data)


def drain(desk, told, taken):
    """All that is to be told now, each with how many bytes were taken by then; whether the end was."""
    while True:
        thing = desk.next()
        if thing == [0]:
            return False
        told.append((thing, taken))
        if thing == [6]:
            return True


def play(pieces, mend):
    """What is told of these pieces up to the end, each with how many bytes were taken by then."""
    desk = Desk()
    desk.read(mend)
    told = []
    taken = 0
    for piece in pieces:
        piece = list(piece)
        while True:
            count = desk.feed(0, piece)[0]
            taken += count
            piece = piece[count:]
            if not piece:
                break
            if drain(desk, told, taken):
                return told
    desk.feed(1)
    if not drain(desk, told, taken):
        raise AssertionError("no end was told")
    return told


def told_of(data, mend):
    return [thing for thing, taken in play([data], mend)]


def read_all(data, mend):
    """A desk at which these bytes were read up to the end."""
    desk = Desk()
    desk.read(mend)
    at = 0
    while True:
        at += max(desk.feed(1, data[at:])[0], 0)
        if desk.next() == [6]:
            return desk


def writing(reel, count=0):
    """A desk that writes that reel and has put its first parts."""
    desk = Desk()
    desk.write(listed(reel.streams))
    for one in reel.parts[:count]:
        desk.put(one)
    return desk


def knowing(data):
    """A desk that knows that reel by its end."""
    desk = Desk()
    desk.seek(data)
    return desk


def read_parts(data):
    """What read, feed, next and stream tell of these bytes: the streams and the parts."""
    desk = Desk()
    desk.read(0)
    streams, parts = [], []
    at = 0
    while True:
        at += desk.feed(0, data[at:])[0]
        thing = desk.next()
        if thing == [1]:
            answer = desk.stream(0)
            while answer != [-1]:
                name = answer[5:5 + answer[4]]
                streams.append(tuple(answer[1:4]) + (name, answer[6 + len(name):]))
                answer = desk.stream(len(streams))
        elif thing[0] == 2:
            parts.append(part(thing[1], thing[3], thing[4], thing[2], thing[8:]))
        else:
            return streams, parts
