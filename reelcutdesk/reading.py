"""A reel read as its bytes come, strictly or mending."""

from reelcutdesk.bodies import MOST_PARTS, expect_index, read_head, read_loose_index, read_part
from reelcutdesk.boxes import CRC_SIZE, HEAD_KIND, INDEX_KIND, OPENING_SIZE, PART_KIND
from reelcutdesk.boxes import check_body, check_opening, may_begin, whole_body
from reelcutdesk.forms import Fault
from reelcutdesk.order import NONE_WRONG, wrong_in_order
from reelcutdesk.reels import Reel, part_row

TOLD_NOTHING = 0
TOLD_HEAD = 1
TOLD_PART = 2
TOLD_INDEX = 3
TOLD_FAULT = 4
TOLD_FOUND = 5
TOLD_END = 6

ORDER_FAULT = 5
CUT_FAULT = 8
BEHIND_FAULT = 9
AGAINST_ORDER = 128
NOWHERE = -1

# What is due at the reader's place.
BOX_DUE = 0
END_DUE = 1
SEARCH_DUE = 2
OVER = 3


# What is to be told next; the reader takes it over only when it is told.
class Thing:
    def __init__(self, answer, place):
        self.answer = answer
        self.place = place
        self.streams = []
        self.part = None


class Reader:
    def __init__(self, mend):
        self.mend = mend
        self.taken = []
        self.closed = False
        self.due = BOX_DUE
        self.place = 0
        self.opening_right = False
        self.reel = Reel([])
        self.lost = False
        self.pending = None
        self.end_told = False


def take_bytes(reader, data, last):
    count = 0
    while count < len(data) and reader.pending is None:
        reader.taken.append(data[count])
        count += 1
        look(reader)
    if count == len(data) and last == 1:
        reader.closed = True
        look(reader)
    return count


def tell(reader):
    thing = reader.pending
    if thing is None:
        return [TOLD_NOTHING]
    reader.pending = None
    take_over(reader, thing)
    look(reader)
    return thing.answer


def take_over(reader, thing):
    told = thing.answer[0]
    reader.place = thing.place
    reader.opening_right = False
    if told == TOLD_HEAD:
        reader.reel.streams = thing.streams
    elif told == TOLD_PART:
        reader.reel.parts.append(thing.part)
    elif told == TOLD_INDEX:
        reader.due = END_DUE
    elif told == TOLD_FAULT:
        leave_fault(reader)
    elif told == TOLD_FOUND:
        reader.due = OVER if thing.place == NOWHERE else BOX_DUE
    else:
        reader.due = OVER
        reader.end_told = True


# Without a head nothing says which streams there are, so nothing behind it can be mended.
def leave_fault(reader):
    if reader.mend == 0 or len(reader.reel.streams) == 0:
        reader.due = OVER
    else:
        reader.due = SEARCH_DUE
        reader.place += 1
        reader.lost = True


def look(reader):
    if reader.pending is not None:
        return
    if reader.due == BOX_DUE:
        reader.pending = look_at_box(reader)
    elif reader.due == END_DUE:
        reader.pending = look_behind_index(reader)
    elif reader.due == SEARCH_DUE:
        reader.pending = search(reader)
    else:
        reader.pending = Thing([TOLD_END], reader.place)


def fault_thing(reader, kind, stream, place):
    return Thing([TOLD_FAULT, kind, stream, place], reader.place)


def look_at_box(reader):
    # Twelve right bytes stay right: they are not looked at again with each byte of a long body.
    if not reader.opening_right:
        try:
            check_opening(reader.taken, reader.place, kinds_due(reader))
        except Fault as fault:
            return fault_thing(reader, fault.kind, 0, fault.place)
        reader.opening_right = len(reader.taken) - reader.place >= OPENING_SIZE
    body = whole_body(reader.taken, reader.place)
    if body is not None:
        return look_at_body(reader, body)
    if reader.closed:
        return fault_thing(reader, CUT_FAULT, 0, len(reader.taken))
    return None


# The parts told are counted, whatever was lost between them: a reel has no more than that in mending either.
def kinds_due(reader):
    if len(reader.reel.streams) == 0:
        return (HEAD_KIND,)
    if len(reader.reel.parts) == MOST_PARTS:
        return (INDEX_KIND,)
    return (PART_KIND, INDEX_KIND)


def look_at_body(reader, body):
    kind = reader.taken[reader.place + 3]
    try:
        check_body(body)
        if kind == HEAD_KIND:
            return head_thing(body)
        if kind == PART_KIND:
            return part_thing(reader, body)
        return index_thing(reader, body)
    except Fault as fault:
        return fault_thing(reader, fault.kind, body.stream, fault.place)


def head_thing(body):
    thing = Thing([TOLD_HEAD], body.end + CRC_SIZE)
    thing.streams = read_head(body)
    return thing


def part_thing(reader, body):
    part = read_part(body, reader.reel.streams)
    part.place = reader.place
    wrong = wrong_in_order(reader.reel, part)
    if wrong != NONE_WRONG:
        if reader.mend == 0:
            raise Fault(ORDER_FAULT, body.places[wrong])
        part.flags += AGAINST_ORDER
    answer = [TOLD_PART] + part_row(part) + [part.size] + part.data
    thing = Thing(answer, body.end + CRC_SIZE)
    thing.part = part
    return thing


def index_thing(reader, body):
    if reader.lost or any([part.flags >= AGAINST_ORDER for part in reader.reel.parts]):
        read_loose_index(body, reader.reel.streams)
    else:
        expect_index(body, reader.reel, reader.place)
    return Thing([TOLD_INDEX], body.end + CRC_SIZE)


def look_behind_index(reader):
    if len(reader.taken) > reader.place:
        return fault_thing(reader, BEHIND_FAULT, 0, reader.place)
    if reader.closed:
        return Thing([TOLD_END], reader.place)
    return None


# A place stays the reader's until its twelve bytes are there, so none is passed over between two pieces.
def search(reader):
    while reader.place + OPENING_SIZE <= len(reader.taken):
        if may_begin(reader.taken, reader.place):
            return Thing([TOLD_FOUND, reader.place], reader.place)
        reader.place += 1
    if reader.closed:
        return Thing([TOLD_FOUND, NOWHERE], NOWHERE)
    return None


# The thing at which a strict reading of all the bytes stops: its first fault, or the end.
def strict_stop(data):
    reader = Reader(0)
    reader.taken = list(data)
    reader.closed = True
    look(reader)
    while reader.pending.answer[0] not in (TOLD_FAULT, TOLD_END):
        tell(reader)
    return reader.pending.answer
