"""A reel written part by part, and where its boxes stand."""

from reelcutdesk.bodies import head_form, index_form, part_form, part_numbers_form, read_part
from reelcutdesk.boxes import BOX_SIZE, HEAD_KIND, INDEX_KIND, MOST_BODY, PART_KIND, box_of
from reelcutdesk.forms import Body, Fault
from reelcutdesk.order import NONE_WRONG, wrong_in_order


def part_box_size(part):
    return BOX_SIZE + len(part_numbers_form(part)) + part.size


def place_behind(reel):
    if len(reel.parts) == 0:
        return BOX_SIZE + len(head_form(reel.streams))
    last = reel.parts[-1]
    return last.place + part_box_size(last)


def add_part(reel, part):
    part.place = place_behind(reel)
    reel.parts.append(part)


# Read back like any other body, so that nothing is written that reading would tell as a fault.
def may_be_put(reel, part):
    form = part_form(part)
    if len(form) > MOST_BODY:
        return False
    try:
        read_part(Body(form, 0, len(form)), reel.streams)
    except Fault:
        return False
    return wrong_in_order(reel, part) == NONE_WRONG


# The head goes ahead of the first box that is told, whichever that is.
def head_if_first(reel):
    if len(reel.parts) > 0:
        return []
    return box_of(HEAD_KIND, head_form(reel.streams))


def put_part(reel, part):
    boxes = head_if_first(reel) + box_of(PART_KIND, part_form(part))
    add_part(reel, part)
    return boxes


def end_reel(reel):
    return head_if_first(reel) + box_of(INDEX_KIND, index_form(reel, place_behind(reel)))
