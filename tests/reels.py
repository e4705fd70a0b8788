"""Reels built for the tests, by means of their own."""

MARK = [76, 119, 142]
HEAD, PART, INDEX = 72, 80, 73
KEY, ENDS = 1, 2


def table():
    rows = []
    for k in range(256):
        for _ in range(8):
            k = (k >> 1) ^ (0x82F63B78 if k & 1 else 0)
        rows.append(k)
    return rows


TABLE = table()


def crc(data):
    rest = 0xFFFFFFFF
    for byte in data:
        rest = (rest >> 8) ^ TABLE[(rest ^ byte) & 255]
    return list((rest ^ 0xFFFFFFFF).to_bytes(4, "little"))


def number(value):
    data = []
    while value > 127:
        data.append(value % 128 + 128)
        value //= 128
    return data + [value]


def signed(value):
    return number(2 * value if value >= 0 else -2 * value - 1)


def string(data):
    return number(len(data)) + list(data)


def opening(kind, length):
    first = MARK + [kind] + list(length.to_bytes(4, "little"))
    return first + crc(first)


def box(kind, body):
    return opening(kind, len(body)) + list(body) + crc(body)


def stream(kind=7, num=1, den=1, name=(), setup=()):
    return (kind, num, den, list(name), list(setup))


def listed(streams):
    """The streams as write takes them."""
    numbers = []
    for kind, num, den, name, setup in streams:
        numbers += [kind, num, den, len(name)] + name + [len(setup)] + setup
    return numbers


def head_body(streams):
    body = number(1) + number(len(streams))
    for kind, num, den, name, setup in streams:
        body += number(kind) + number(num) + number(den) + string(name) + string(setup)
    return body


def part(which=0, time=0, length=0, flags=KEY, data=()):
    return (which, time, length, flags, list(data))


def part_body(one):
    which, time, length, flags, data = one
    return number(which) + signed(time) + number(length) + number(flags) + data


def index_numbers(parts):
    times = {}
    rows = [number(len(parts))]
    for which, time, length, flags, data in parts:
        since = time - times.get(which, 0)
        times[which] = time
        rows += [number(which), signed(since), number(length), number(flags), number(len(data))]
    return rows


def index_tail(place):
    return list(place.to_bytes(8, "little")) + MARK + [46]


def index_body(parts, place):
    return sum(index_numbers(parts), []) + index_tail(place)


class Reel:
    """A right reel (if what it is made of is right), and where its boxes stand."""

    def __init__(self, streams, parts):
        self.streams, self.parts = streams, parts
        self.data = box(HEAD, head_body(streams))
        self.places = []
        for one in parts:
            self.places.append(len(self.data))
            self.data += box(PART, part_body(one))
        self.index = len(self.data)
        self.data += box(INDEX, index_body(parts, self.index))

    def row(self, k, extra=0):
        which, time, length, flags, data = self.parts[k]
        return [which, flags + extra, time, length, self.places[k], len(data)]

    def told_part(self, k, extra=0):
        data = self.parts[k][4]
        return [2] + self.row(k, extra) + [len(data)] + data

    def found(self, k, extra=0):
        return [k] + self.row(k, extra)

    def told_stream(self, k):
        kind, num, den, name, setup = self.streams[k]
        return [0, kind, num, den, len(name)] + name + [len(setup)] + setup

    def told(self):
        return [[1]] + [self.told_part(k) for k in range(len(self.parts))] + [[3], [6]]


def reel_of(parts, streams=None):
    return Reel(streams or [stream()], parts)


def changed(data, at, change=1):
    data = list(data)
    data[at] ^= change
    return data


def with_index(reel, body):
    """The reel with another body in its index."""
    return reel.data[:reel.index] + box(INDEX, body)


def with_part(body, before=(), streams=None):
    """A reel's begin: head, parts, then one more part box of that body; and that box's place."""
    reel = reel_of(list(before), streams)
    return reel.data[:reel.index] + box(PART, body), reel.index


def small_reel():
    return reel_of([part(data=[5, 6]), part(time=3, length=2, flags=ENDS)])


def rich_reel():
    streams = [
        stream(0, 1, 25, [102, 105], [1, 2, 3]),
        stream(255, 4294967295, 4294967294, [0] * 16, [255] * 40),
        stream(9, 1, 48000),
    ]
    parts = [
        part(0, -100, 4, KEY, [1, 2, 3]),
        part(2, 0, 4294967295, KEY, []),
        part(0, -100, 0, 0, [76, 119, 142]),
        part(1, 0, 1, KEY + ENDS, [200] * 30),
        part(2, 48000, 7, 0, [0]),
        part(0, 30, 7, ENDS, [9] * 5),
    ]
    return Reel(streams, parts)
