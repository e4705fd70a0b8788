"""What stands in the bodies of the three kinds of boxes: how it is read, and how it is written."""

from reelcutdesk.forms import FORM_FAULT, Body, Fault, expect_byte, expect_end, lowest_first, numbers_form, read_number
from reelcutdesk.forms import read_rest, read_signed, read_string, read_within, signed_form, string_form, take_one
from reelcutdesk.reels import Part, Stream

FORM = 1
MOST_STREAMS = 4
MOST_KIND = 255
MOST_RATE = 4294967295
MOST_NAME = 16
MOST_SETUP = 40
MOST_PARTS = 16
MOST_TIME = 1125899906842624
MOST_LENGTH = 4294967295
MOST_FLAGS = 3
MOST_SIZE = 600
PLACE_SIZE = 8
LAST_BYTES = (76, 119, 142, 46)
INDEX_FAULT = 7


def common_divisor(a, b):
    while b > 0:
        rest = a % b
        a = b
        b = rest
    return a


def head_form(streams):
    form = numbers_form([FORM, len(streams)])
    for stream in streams:
        form.extend(numbers_form([stream.kind, stream.num, stream.den]))
        form.extend(string_form(stream.name))
        form.extend(string_form(stream.setup))
    return form


def read_head(body):
    read_within(body, FORM, FORM)
    count = read_within(body, 1, MOST_STREAMS)
    streams = [read_stream(body) for k in range(count)]
    expect_end(body)
    return streams


def read_stream(body):
    kind = read_within(body, 0, MOST_KIND)
    num = read_within(body, 1, MOST_RATE)
    den = read_within(body, 1, MOST_RATE)
    if common_divisor(num, den) > 1:
        raise Fault(FORM_FAULT, body.places[-1])
    name = read_string(body, MOST_NAME)
    setup = read_string(body, MOST_SETUP)
    return Stream(kind, num, den, name, setup)


# Read as a head's streams are, so that none is written that a head may not have.
def listed_streams(numbers):
    body = Body(numbers, 0, len(numbers))
    body.plain = True
    streams = []
    while body.at < body.end:
        streams.append(read_stream(body))
    if len(streams) == 0 or len(streams) > MOST_STREAMS:
        raise Fault(FORM_FAULT, 0)
    return streams


def read_time(body, before):
    time = before + read_signed(body)
    if time <= -MOST_TIME or time > MOST_TIME:
        raise Fault(FORM_FAULT, body.places[-1])
    return time


def part_numbers_form(part):
    return numbers_form([part.stream, signed_form(part.time), part.length, part.flags])


def part_form(part):
    return part_numbers_form(part) + part.data


def read_part(body, streams):
    stream = read_within(body, 0, len(streams) - 1)
    body.stream = stream
    time = read_time(body, 0)
    length = read_within(body, 0, MOST_LENGTH)
    flags = read_within(body, 0, MOST_FLAGS)
    return Part(stream, time, length, flags, read_rest(body))


def index_numbers(reel):
    times = [0 for stream in reel.streams]
    numbers = [len(reel.parts)]
    for part in reel.parts:
        since = part.time - times[part.stream]
        times[part.stream] = part.time
        numbers.extend([part.stream, signed_form(since), part.length, part.flags, part.size])
    return numbers


def index_form(reel, place):
    return numbers_form(index_numbers(reel)) + lowest_first(place, PLACE_SIZE) + list(LAST_BYTES)


def expect_index(body, reel, place):
    for wanted in index_numbers(reel):
        if read_number(body) != wanted:
            raise Fault(INDEX_FAULT, body.places[-1])
    for wanted in lowest_first(place, PLACE_SIZE):
        expect_byte(body, wanted, INDEX_FAULT)
    expect_index_end(body)


# An index behind damage: what it tells may be of parts that nobody saw, so its form alone counts.
def read_loose_index(body, streams):
    times = [0 for stream in streams]
    count = read_within(body, 0, MOST_PARTS)
    parts = [read_listed_part(body, times) for k in range(count)]
    for k in range(PLACE_SIZE):
        take_one(body)
    expect_index_end(body)
    return parts


def read_listed_part(body, times):
    stream = read_within(body, 0, len(times) - 1)
    times[stream] = read_time(body, times[stream])
    length = read_within(body, 0, MOST_LENGTH)
    flags = read_within(body, 0, MOST_FLAGS)
    part = Part(stream, times[stream], length, flags, [])
    part.size = read_within(body, 0, MOST_SIZE)
    return part


def expect_index_end(body):
    for wanted in LAST_BYTES:
        expect_byte(body, wanted, FORM_FAULT)
    expect_end(body)
