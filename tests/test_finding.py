import unittest

from tests.desk import Desk, knowing, read_all, writing
from tests.reels import (
    ENDS, KEY, PART, box, changed, index_body, listed, part, part_body, reel_of, rich_reel, small_reel, stream,
    with_index)

HUGE = 9007199254740991
TWO = [stream(), stream()]


def keyed_reel():
    """Stream 0 has keys at 2, 4, 4 and 9, and parts between that are none; stream 1 one part; stream 2 none."""
    return reel_of([
        part(0, 2), part(0, 3, flags=0), part(1, 3, 5, KEY, [7]), part(0, 4), part(0, 4, flags=0), part(0, 4, 8),
        part(0, 6, flags=0), part(0, 9, flags=KEY + ENDS)], [stream()] * 3)


def against_order():
    """In stream 0 times fall twice, and its first part is no key."""
    return reel_of([part(0, 5, flags=0), part(0, 8), part(0, 3), part(1, 3), part(0, 6), part(0, 4)], TWO)


class Finding(unittest.TestCase):
    def found(self, desk, reel, which, pairs):
        for time, k in pairs:
            self.assertEqual(desk.find(which, time), reel.found(k))

    def check_keyed(self, desk):
        reel = keyed_reel()
        self.found(desk, reel, 0, ((2, 0), (3, 0), (4, 5), (5, 5), (6, 5), (8, 5), (9, 7), (10, 7), (HUGE, 7)))
        self.found(desk, reel, 0, ((1, 0), (0, 0), (-1, 0), (-HUGE, 0)))
        self.found(desk, reel, 1, ((3, 2), (HUGE, 2), (2, 2), (-HUGE, 2)))
        for time in (-HUGE, 0, HUGE):
            self.assertEqual(desk.find(2, time), [-6])
            self.assertEqual(desk.find(3, time), [-1])
            self.assertEqual(desk.find(HUGE, time), [-1])

    def test_known_by_its_end(self):
        self.check_keyed(knowing(keyed_reel().data))

    def test_read(self):
        for mend in (0, 1):
            self.check_keyed(read_all(keyed_reel().data, mend))

    def test_written(self):
        desk = writing(keyed_reel(), 8)
        self.check_keyed(desk)
        desk.end()
        self.check_keyed(desk)

    def test_numbers_told(self):
        reel = keyed_reel()
        self.assertEqual(knowing(reel.data).find(1, 3), [2, 1, 1, 3, 5, reel.places[2], 1])

    def test_every_part_that_can_be_found(self):
        reel = rich_reel()
        desk = knowing(reel.data)
        self.found(desk, reel, 0, ((-101, 0), (-100, 0), (29, 0), (30, 0)))
        self.found(desk, reel, 1, ((-1, 3), (0, 3), (1, 3)))
        self.found(desk, reel, 2, ((-1, 1), (0, 1), (48000, 1)))


class FindingWhileReading(unittest.TestCase):
    def test_only_what_was_told(self):
        reel = small_reel()
        desk = Desk()
        desk.read(0)
        self.assertEqual(desk.find(0, 0), [-4])
        desk.feed(0, reel.data)
        self.assertEqual(desk.find(0, 0), [-4])
        self.assertEqual(desk.find(9, 0), [-4])
        self.assertEqual(desk.next(), [1])
        self.assertEqual(desk.find(0, 0), [-6])
        self.assertEqual(desk.find(1, 0), [-1])
        desk.feed(0, reel.data[reel.places[0]:])
        self.assertEqual(desk.find(0, 0), [-6])
        desk.next()
        self.assertEqual(desk.find(0, 0), reel.found(0))

    def test_a_later_key_only_when_it_was_told(self):
        reel = reel_of([part(0, 1), part(0, 2)])
        desk = Desk()
        desk.read(0)
        at = desk.feed(0, reel.data)[0]
        desk.next()
        at += desk.feed(0, reel.data[at:])[0]
        desk.next()
        self.assertEqual(desk.feed(0, reel.data[at:]), [reel.index - at])
        self.assertEqual(desk.find(0, 9), reel.found(0))
        desk.next()
        self.assertEqual(desk.find(0, 9), reel.found(1))

    def test_after_a_fault(self):
        reel = small_reel()
        data = reel.data[:reel.places[1]] + [0]
        self.assertEqual(read_all(data, 0).find(0, 5), reel.found(0))

    def test_without_a_head(self):
        for mend in (0, 1):
            self.assertEqual(read_all([1], mend).find(0, 0), [-4])

    def test_numbered_among_the_parts_told(self):
        reel = reel_of([part(0, k, data=[k]) for k in range(4)])
        desk = read_all(changed(reel.data, reel.places[1]), 1)
        self.assertEqual(desk.find(0, 1), reel.found(0))
        self.assertEqual(desk.find(0, 2), [1] + reel.row(2))
        self.assertEqual(desk.find(0, 3), [2] + reel.row(3))

    def test_parts_told_with_128(self):
        reel = against_order()
        desk = read_all(reel.data, 1)
        extra = (128, 0, 128, 0, 0, 128)
        for time, k in ((2, 0), (3, 2), (4, 5), (5, 5), (6, 5), (7, 5), (8, 5), (HUGE, 5)):
            self.assertEqual(desk.find(0, time), reel.found(k, extra[k]))
        self.assertEqual(desk.find(1, 0), reel.found(3))

    def test_a_part_told_with_128_that_is_no_key(self):
        reel = reel_of([part(0, 5), part(0, 2, flags=0), part(0, 3, flags=0)])
        desk = read_all(reel.data, 1)
        for time in (1, 2, 3, 5, 6):
            self.assertEqual(desk.find(0, time), reel.found(0))

    def test_a_part_found_behind_the_index(self):
        reel = small_reel()
        size = len(reel.data)
        data = reel.data + [0] + box(PART, part_body(part(0, 4, 6, KEY, [1, 2])))
        desk = read_all(data, 1)
        self.assertEqual(desk.find(0, 3), reel.found(0))
        self.assertEqual(desk.find(0, 4), [2, 0, KEY + 128, 4, 6, size + 1, 2])

    def test_an_index_that_tells_more_adds_nothing(self):
        reel = reel_of([part(flags=0)])
        data = with_index(reel, index_body([part(0, 9, 9, KEY, [1])] * 3, 0))
        desk = read_all(data, 1)
        self.assertEqual(desk.find(0, 9), reel.found(0, 128))


class FindingWhileWriting(unittest.TestCase):
    def test_only_what_was_put(self):
        reel = small_reel()
        desk = Desk()
        self.assertEqual(desk.find(0, 0), [-4])
        desk.write(listed(reel.streams))
        self.assertEqual(desk.find(0, 0), [-6])
        self.assertEqual(desk.find(1, 0), [-1])
        desk.put(reel.parts[0])
        self.assertEqual(desk.find(0, 0), reel.found(0))
        self.assertEqual(desk.put(part(0, -1)), [-1])
        self.assertEqual(desk.find(0, 9), reel.found(0))

    def test_another_beginning(self):
        reel = small_reel()
        desk = writing(reel, 2)
        desk.write(listed(TWO))
        self.assertEqual(desk.find(0, 0), [-6])
        self.assertEqual(desk.find(1, 0), [-6])

    def test_nothing_is_left_behind_judge(self):
        desk = writing(small_reel(), 2)
        desk.judge([])
        self.assertEqual(desk.find(0, 0), [-4])
        self.assertEqual(desk.find(5, 0), [-4])
