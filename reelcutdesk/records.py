"""The calls on a record, as one list of numbers, and their answers as another."""

from reelcutdesk.reading import TOLD_END, Reader, strict_stop, take_bytes, tell

JUDGE = 0
READ = 1
FEED = 2
NEXT = 3
STREAM = 4

MOST_BYTES = 1500

NOT_LET = -1
TOO_MANY = -2
NOT_NOW = -4
NOT_RIGHT = -8


class UnknownCall(ValueError):
    pass


# Empty while there is no reader.
class Record:
    def __init__(self):
        self.reader = None


# The list of calls while it is walked; the list itself is only read.
class Cursor:
    def __init__(self, numbers):
        self.numbers = numbers
        self.at = 0


def take_number(cursor):
    cursor.at += 1
    return cursor.numbers[cursor.at - 1]


def take_row(cursor):
    size = take_number(cursor)
    cursor.at += size
    return cursor.numbers[cursor.at - size:cursor.at]


def answers(calls):
    record = Record()
    cursor = Cursor(calls)
    told = []
    while cursor.at < len(calls):
        answer = answer_call(record, cursor)
        told.append(len(answer))
        told.extend(answer)
    return told


def answer_call(record, cursor):
    call = take_number(cursor)
    if call == JUDGE:
        return answer_judge(record, take_row(cursor))
    if call == READ:
        return answer_read(record, take_number(cursor))
    if call == FEED:
        last = take_number(cursor)
        return answer_feed(record, last, take_row(cursor))
    if call == NEXT:
        return answer_next(record)
    if call == STREAM:
        return answer_stream(record, take_number(cursor))
    raise UnknownCall(call)


def answer_judge(record, data):
    if len(data) > MOST_BYTES:
        return [TOO_MANY]
    record.reader = None
    stop = strict_stop(data)
    if stop[0] == TOLD_END:
        return [0]
    return [NOT_RIGHT] + stop[1:]


def answer_read(record, mend):
    if mend > 1:
        return [NOT_LET]
    record.reader = Reader(mend)
    return [0]


def answer_feed(record, last, data):
    reader = record.reader
    if reader is None:
        return [NOT_NOW]
    if last > 1:
        return [NOT_LET]
    if reader.closed or reader.end_told:
        return [NOT_NOW]
    if len(reader.taken) + len(data) > MOST_BYTES:
        return [TOO_MANY]
    return [take_bytes(reader, data, last)]


def answer_next(record):
    if record.reader is None:
        return [NOT_NOW]
    return tell(record.reader)


def streams_of(record):
    if record.reader is None:
        return []
    return record.reader.streams


def answer_stream(record, k):
    streams = streams_of(record)
    if len(streams) == 0:
        return [NOT_NOW]
    if k >= len(streams):
        return [NOT_LET]
    stream = streams[k]
    answer = [0, stream.kind, stream.num, stream.den, len(stream.name)] + stream.name
    return answer + [len(stream.setup)] + stream.setup
