"""A reel's streams and parts, as far as they were told, put or are known."""

KEY = 1
STREAM_ENDS = 2
NONE_FOUND = -1


class Stream:
    def __init__(self, kind, num, den, name, setup):
        self.kind = kind
        self.num = num
        self.den = den
        self.name = name
        self.setup = setup


# The size stands by itself: of a part that only the index tells, there are no bytes.
class Part:
    def __init__(self, stream, time, length, flags, data):
        self.stream = stream
        self.time = time
        self.length = length
        self.flags = flags
        self.data = data
        self.size = len(data)
        self.place = 0


class Reel:
    def __init__(self, streams):
        self.streams = streams
        self.parts = []


def part_row(part):
    return [part.stream, part.flags, part.time, part.length, part.place, part.size]


# The stream's first part stands until a key does, so it is what is left where no key fits.
def found_number(parts, stream, time):
    found = NONE_FOUND
    for k, part in enumerate(parts):
        if part.stream == stream:
            fits = part.flags & KEY > 0 and part.time <= time
            if fits or found == NONE_FOUND:
                found = k
    return found
