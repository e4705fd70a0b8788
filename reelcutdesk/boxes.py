"""Boxes: the twelve bytes that open one, its body, and the check behind that."""

from reelcutdesk.crc import crc_of
from reelcutdesk.forms import Body, Fault, from_lowest_first, lowest_first

MARK = (76, 119, 142)
HEAD_KIND = 72
PART_KIND = 80
INDEX_KIND = 73
MOST_BODY = 600
OPENING_SIZE = 12
CRC_SIZE = 4
BOX_SIZE = 16

MARK_FAULT = 1
LENGTH_FAULT = 2
OPENING_FAULT = 3
BODY_FAULT = 6


# Bytes that have not come yet are not held against the box, so a fault shows with the byte that makes it.
def check_opening(data, place, kinds):
    there = len(data) - place
    for k in range(min(there, 3)):
        if data[place + k] != MARK[k]:
            raise Fault(MARK_FAULT, place + k)
    if there >= 4 and data[place + 3] not in kinds:
        raise Fault(MARK_FAULT, place + 3)
    if there >= 8 and body_length(data, place) > MOST_BODY:
        raise Fault(LENGTH_FAULT, place + 4)
    if there >= OPENING_SIZE and not crc_stands(data, place, place + 8):
        raise Fault(OPENING_FAULT, place + 8)


def crc_form(data):
    return lowest_first(crc_of(data), CRC_SIZE)


def box_of(kind, body):
    first = list(MARK) + [kind] + lowest_first(len(body), 4)
    return first + crc_form(first) + body + crc_form(body)


def body_length(data, place):
    return from_lowest_first(data, place + 4, 4)


def crc_stands(data, place, end):
    return crc_form(data[place:end]) == data[end:end + CRC_SIZE]


def may_begin(data, place):
    try:
        check_opening(data, place, (PART_KIND, INDEX_KIND))
    except Fault:
        return False
    return True


# None as long as the box, whose opening has no fault, is not whole.
def whole_body(data, place):
    if len(data) - place < OPENING_SIZE:
        return None
    end = place + OPENING_SIZE + body_length(data, place)
    if len(data) < end + CRC_SIZE:
        return None
    return Body(data, place + OPENING_SIZE, end)


def check_body(body):
    if not crc_stands(body.data, body.at, body.end):
        raise Fault(BODY_FAULT, body.end)
