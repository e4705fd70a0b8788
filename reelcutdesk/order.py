"""The order in which parts may stand."""

from reelcutdesk.reels import KEY, STREAM_ENDS

MOST_SECONDS_BACK = 10

# Which of a part's four numbers stands against the order, counted from 0.
NONE_WRONG = -1
STREAM_WRONG = 0
TIME_WRONG = 1
FLAGS_WRONG = 3


# Times of two streams are compared over their common denominator, so nothing is rounded.
def is_too_early(streams, part, before):
    rate = streams[part.stream]
    rate_before = streams[before.stream]
    time = part.time * rate.num * rate_before.den
    time_before = before.time * rate_before.num * rate.den
    return time_before - time > MOST_SECONDS_BACK * rate.den * rate_before.den


def wrong_in_order(reel, part):
    own = [other for other in reel.parts if other.stream == part.stream]
    for other in own:
        if other.flags & STREAM_ENDS > 0:
            return STREAM_WRONG
    if len(own) > 0 and part.time < own[-1].time:
        return TIME_WRONG
    if len(reel.parts) > 0 and is_too_early(reel.streams, part, reel.parts[-1]):
        return TIME_WRONG
    if len(own) == 0 and part.flags & KEY == 0:
        return FLAGS_WRONG
    return NONE_WRONG
