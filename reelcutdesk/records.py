"""The calls on a record, as one list of numbers, and their answers as another."""

from reelcutdesk.bodies import MOST_PARTS, listed_streams
from reelcutdesk.forms import Fault
from reelcutdesk.reading import TOLD_END, Reader, strict_stop, take_bytes, tell
from reelcutdesk.reels import NONE_FOUND, Part, Reel, found_number, part_row
from reelcutdesk.seeking import NotKnown, known_by_end
from reelcutdesk.writing import end_reel, may_be_put, put_part

JUDGE = 0
READ = 1
FEED = 2
NEXT = 3
STREAM = 4
FIND = 5
WRITE = 6
PUT = 7
END = 8
SEEK = 9

MOST_BYTES = 1500

NOT_LET = -1
TOO_MANY = -2
NOT_NOW = -4
NO_PART = -6
FULL = -7
NOT_RIGHT = -8


class UnknownCall(ValueError):
    pass


# Its reel is what is asked about, whether it was told, is known or is written; in an empty record it has no streams.
class Record:
    def __init__(self):
        self.reader = None
        self.reel = Reel([])
        self.writes = False


def become(record, reader, reel, writes):
    record.reader = reader
    record.reel = reel
    record.writes = writes


def become_empty(record):
    become(record, None, Reel([]), False)


# The list of calls while it is walked; the list itself is only read.
class Cursor:
    def __init__(self, numbers):
        self.numbers = numbers
        self.at = 0


def take_number(cursor):
    cursor.at += 1
    return cursor.numbers[cursor.at - 1]


def take_row(cursor):
    size = take_number(cursor)
    cursor.at += size
    return cursor.numbers[cursor.at - size:cursor.at]


def answers(calls):
    record = Record()
    cursor = Cursor(calls)
    told = []
    while cursor.at < len(calls):
        answer = answer_call(record, cursor)
        told.append(len(answer))
        told.extend(answer)
    return told


def answer_call(record, cursor):
    call = take_number(cursor)
    if call == JUDGE:
        return answer_judge(record, take_row(cursor))
    if call == READ:
        return answer_read(record, take_number(cursor))
    if call == FEED:
        last = take_number(cursor)
        return answer_feed(record, last, take_row(cursor))
    if call == NEXT:
        return answer_next(record)
    if call == STREAM:
        return answer_stream(record, take_number(cursor))
    if call == FIND:
        which = take_number(cursor)
        return answer_find(record, which, take_number(cursor))
    if call == WRITE:
        return answer_write(record, take_row(cursor))
    if call == PUT:
        return answer_put(record, take_part(cursor))
    if call == END:
        return answer_end(record)
    if call == SEEK:
        return answer_seek(record, take_row(cursor))
    raise UnknownCall(call)


def take_part(cursor):
    stream = take_number(cursor)
    flags = take_number(cursor)
    time = take_number(cursor)
    length = take_number(cursor)
    return Part(stream, time, length, flags, take_row(cursor))


def answer_judge(record, data):
    if len(data) > MOST_BYTES:
        return [TOO_MANY]
    become_empty(record)
    stop = strict_stop(data)
    if stop[0] == TOLD_END:
        return [0]
    return [NOT_RIGHT] + stop[1:]


def answer_read(record, mend):
    if mend > 1:
        return [NOT_LET]
    reader = Reader(mend)
    become(record, reader, reader.reel, False)
    return [0]


def answer_feed(record, last, data):
    reader = record.reader
    if reader is None:
        return [NOT_NOW]
    if last > 1:
        return [NOT_LET]
    if reader.closed or reader.end_told:
        return [NOT_NOW]
    if len(reader.taken) + len(data) > MOST_BYTES:
        return [TOO_MANY]
    return [take_bytes(reader, data, last)]


def answer_next(record):
    if record.reader is None:
        return [NOT_NOW]
    return tell(record.reader)


def answer_stream(record, k):
    streams = record.reel.streams
    if len(streams) == 0:
        return [NOT_NOW]
    if k >= len(streams):
        return [NOT_LET]
    stream = streams[k]
    return [0, stream.kind, stream.num, stream.den] + counted(stream.name) + counted(stream.setup)


def answer_find(record, which, time):
    reel = record.reel
    if len(reel.streams) == 0:
        return [NOT_NOW]
    if which >= len(reel.streams):
        return [NOT_LET]
    found = found_number(reel.parts, which, time)
    if found == NONE_FOUND:
        return [NO_PART]
    return [found] + part_row(reel.parts[found])


def answer_write(record, numbers):
    try:
        streams = listed_streams(numbers)
    except Fault:
        return [NOT_LET]
    become(record, None, Reel(streams), True)
    return [0]


def answer_put(record, part):
    if not record.writes:
        return [NOT_NOW]
    if not may_be_put(record.reel, part):
        return [NOT_LET]
    if len(record.reel.parts) == MOST_PARTS:
        return [FULL]
    return [0] + counted(put_part(record.reel, part))


def answer_end(record):
    if not record.writes:
        return [NOT_NOW]
    record.writes = False
    return [0] + counted(end_reel(record.reel))


def answer_seek(record, data):
    become_empty(record)
    try:
        become(record, None, known_by_end(data), False)
    except NotKnown:
        return [NOT_RIGHT]
    return [0]


def counted(data):
    return [len(data)] + data
