"""Reels, right and damaged, that chance chooses."""

from math import gcd

from tests.reels import ENDS, KEY, MARK, PART, Reel, box, part, part_body, stream


def some_streams(chance):
    streams = []
    for _ in range(chance.randint(1, 4)):
        while True:
            num, den = chance.choice((1, 2, 3, 1001)), chance.choice((1, 2, 25, 48))
            if gcd(num, den) == 1:
                break
        name = [chance.randrange(256) for _ in range(chance.choice((0, 0, 2)))]
        streams.append(stream(chance.randrange(256), num, den, name, name[:1]))
    return streams


def some_parts(chance, streams, most):
    """Parts in each stream's order; whether they lie too far apart is not looked at here."""
    times, ended, parts = {}, {}, []
    for _ in range(chance.randint(0, most)):
        which = chance.randrange(len(streams))
        if which in ended:
            continue
        flags = KEY if which not in times else chance.choice((0, 0, KEY))
        if chance.random() < 0.1:
            flags += ENDS
            ended[which] = True
        times[which] = times.get(which, -1) + chance.choice((0, 0, 1))
        data = [chance.choice(MARK + [PART, 0, 255]) for _ in range(chance.choice((0, 1, 2, 9)))]
        if chance.random() < 0.15:
            data += box(PART, part_body(part(which, times[which])))
        parts.append(part(which, times[which], chance.choice((0, 1, 300)), flags, data))
    return parts


def far_apart(streams, parts):
    """Whether a part is more than ten seconds before the one before it."""
    for one, then in zip(parts, parts[1:]):
        a, b = streams[one[0]], streams[then[0]]
        if one[1] * a[1] * b[2] - then[1] * b[1] * a[2] > 10 * a[2] * b[2]:
            return True
    return False


def some_reel(chance, most=5):
    while True:
        streams = some_streams(chance)
        parts = some_parts(chance, streams, most)
        if not far_apart(streams, parts):
            return Reel(streams, parts)


def damaged(chance, reel):
    data = list(reel.data)
    for _ in range(chance.randint(1, 2)):
        at = chance.randrange(len(data))
        how = chance.randrange(5)
        if how == 0:
            data[at] ^= 1 << chance.randrange(8)
        elif how == 1:
            del data[at:at + chance.randint(1, 20)]
        elif how == 2:
            data[at:at] = [chance.randrange(256) for _ in range(chance.randint(1, 20))]
        elif how == 3:
            data = data[:at] or [0]
        else:
            data += [chance.randrange(256) for _ in range(3)]
    return data


def other_body(chance, reel):
    """The reel with one byte of one body changed and its check set right, so that the body's form decides."""
    starts = [0] + reel.places + [reel.index, len(reel.data)]
    k = chance.randrange(len(starts) - 1)
    at, end = starts[k], starts[k + 1]
    body = reel.data[at + 12:end - 4]
    if not body:
        return list(reel.data)
    spot = chance.randrange(min(len(body), 12))
    if chance.random() < 0.5:
        body[spot] = chance.choice((0, 1, 2, 3, 4, 127, 128, 129, 255))
    elif chance.random() < 0.5:
        body[spot:spot + 1] = []
    else:
        body[spot:spot] = [chance.choice((0, 1, 128))]
    return reel.data[:at] + box(reel.data[at + 3], body) + reel.data[end:]


def some_cut(chance, data, most):
    pieces = []
    while data:
        size = chance.randint(0, most)
        pieces.append(data[:size])
        data = data[size:]
    return pieces
