"""A reel known by its end: by its index and its head, without a look at what lies between."""

from reelcutdesk.bodies import LAST_BYTES, PLACE_SIZE, read_head, read_loose_index
from reelcutdesk.boxes import BOX_SIZE, CRC_SIZE, HEAD_KIND, INDEX_KIND, MOST_BODY
from reelcutdesk.boxes import check_body, check_opening, whole_body
from reelcutdesk.forms import Fault, from_lowest_first
from reelcutdesk.order import NONE_WRONG, wrong_in_order
from reelcutdesk.reels import Reel
from reelcutdesk.writing import add_part, place_behind

LEAST_BYTES = 48
TAIL_SIZE = 16


class NotKnown(Exception):
    pass


def known_by_end(data):
    place = told_place(data)
    try:
        head = checked_body(data, 0, HEAD_KIND)
        index = checked_body(data, place, INDEX_KIND)
        reel = Reel(read_head(head))
        parts = read_loose_index(index, reel.streams)
    except Fault as fault:
        raise NotKnown() from fault
    if index.end + CRC_SIZE != len(data):
        raise NotKnown()
    add_parts_in_order(reel, parts)
    if place_behind(reel) != place:
        raise NotKnown()
    return reel


def told_place(data):
    if len(data) < LEAST_BYTES:
        raise NotKnown()
    tail = len(data) - TAIL_SIZE
    if data[tail + PLACE_SIZE:tail + PLACE_SIZE + len(LAST_BYTES)] != list(LAST_BYTES):
        raise NotKnown()
    place = from_lowest_first(data, tail, PLACE_SIZE)
    back = len(data) - place
    if back < BOX_SIZE or back > BOX_SIZE + MOST_BODY:
        raise NotKnown()
    return place


def checked_body(data, place, kind):
    check_opening(data, place, (kind,))
    body = whole_body(data, place)
    if body is None:
        raise NotKnown()
    check_body(body)
    return body


def add_parts_in_order(reel, parts):
    for part in parts:
        if wrong_in_order(reel, part) != NONE_WRONG:
            raise NotKnown()
        add_part(reel, part)
