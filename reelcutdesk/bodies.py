"""What stands in the bodies of the three kinds of boxes."""

from reelcutdesk.boxes import MARK
from reelcutdesk.forms import FORM_FAULT, Fault, expect_byte, expect_end, lowest_first, read_number, read_rest
from reelcutdesk.forms import read_signed, read_string, read_within, signed_form, take_byte

FORM = 1
MOST_STREAMS = 4
MOST_KIND = 255
MOST_RATE = 4294967295
MOST_NAME = 16
MOST_SETUP = 40
MOST_PARTS = 16
MOST_TIME = 1125899906842624
MOST_LENGTH = 4294967295
MOST_FLAGS = 3
MOST_SIZE = 600
PLACE_SIZE = 8
LAST_BYTE = 46
INDEX_FAULT = 7


class Stream:
    def __init__(self, kind, num, den, name, setup):
        self.kind = kind
        self.num = num
        self.den = den
        self.name = name
        self.setup = setup


class Part:
    def __init__(self, stream, time, length, flags):
        self.stream = stream
        self.time = time
        self.length = length
        self.flags = flags
        self.place = 0
        self.data = []


def common_divisor(a, b):
    while b > 0:
        rest = a % b
        a = b
        b = rest
    return a


def read_head(body):
    read_within(body, FORM, FORM)
    count = read_within(body, 1, MOST_STREAMS)
    streams = [read_stream(body) for k in range(count)]
    expect_end(body)
    return streams


def read_stream(body):
    kind = read_within(body, 0, MOST_KIND)
    num = read_within(body, 1, MOST_RATE)
    den = read_within(body, 1, MOST_RATE)
    if common_divisor(num, den) > 1:
        raise Fault(FORM_FAULT, body.places[-1])
    name = read_string(body, MOST_NAME)
    setup = read_string(body, MOST_SETUP)
    return Stream(kind, num, den, name, setup)


def read_time(body, before):
    time = before + read_signed(body)
    if time <= -MOST_TIME or time > MOST_TIME:
        raise Fault(FORM_FAULT, body.places[-1])
    return time


def read_part(body, streams):
    stream = read_within(body, 0, len(streams) - 1)
    body.stream = stream
    time = read_time(body, 0)
    length = read_within(body, 0, MOST_LENGTH)
    flags = read_within(body, 0, MOST_FLAGS)
    part = Part(stream, time, length, flags)
    part.data = read_rest(body)
    return part


def index_numbers(streams, parts):
    times = [0 for stream in streams]
    numbers = [len(parts)]
    for part in parts:
        since = part.time - times[part.stream]
        times[part.stream] = part.time
        numbers.extend([part.stream, signed_form(since), part.length, part.flags, len(part.data)])
    return numbers


def expect_index(body, streams, parts, place):
    for wanted in index_numbers(streams, parts):
        if read_number(body) != wanted:
            raise Fault(INDEX_FAULT, body.places[-1])
    for wanted in lowest_first(place, PLACE_SIZE):
        expect_byte(body, wanted, INDEX_FAULT)
    expect_index_end(body)


# An index behind damage: what it tells may be of parts that nobody saw, so its form alone counts.
def read_loose_index(body, streams):
    times = [0 for stream in streams]
    count = read_within(body, 0, MOST_PARTS)
    for k in range(count):
        stream = read_within(body, 0, len(streams) - 1)
        times[stream] = read_time(body, times[stream])
        read_within(body, 0, MOST_LENGTH)
        read_within(body, 0, MOST_FLAGS)
        read_within(body, 0, MOST_SIZE)
    for k in range(PLACE_SIZE):
        take_byte(body)
    expect_index_end(body)


def expect_index_end(body):
    for wanted in MARK:
        expect_byte(body, wanted, FORM_FAULT)
    expect_byte(body, LAST_BYTE, FORM_FAULT)
    expect_end(body)
