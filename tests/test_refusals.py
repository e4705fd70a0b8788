import unittest

from tests.desk import Desk
from tests.reels import box, rich_reel, small_reel

HUGE = 9007199254740991


class Refusals(unittest.TestCase):
    def test_empty_record(self):
        desk = Desk()
        for k in range(2):
            self.assertEqual(desk.feed(0), [-4])
            self.assertEqual(desk.next(), [-4])
            self.assertEqual(desk.stream(0), [-4])
            self.assertEqual(desk.stream(HUGE), [-4])

    def test_feed_that_does_not_read_before_last(self):
        self.assertEqual(Desk().feed(2, [0] * 3000), [-4])

    def test_judge_empties_the_record(self):
        for data, answer in ((small_reel().data, [0]), ([1], [-8, 1, 0, 0])):
            desk = Desk()
            desk.read(0)
            self.assertEqual(desk.judge(data), answer)
            self.assertEqual(desk.next(), [-4])
            self.assertEqual(desk.feed(0), [-4])
            self.assertEqual(desk.stream(0), [-4])

    def test_judge_of_too_many_changes_nothing(self):
        desk = Desk()
        desk.read(0)
        desk.feed(0, small_reel().data)
        self.assertEqual(desk.judge(small_reel().data + [0] * 2000), [-2])
        self.assertEqual(desk.judge([0] * 1501), [-2])
        self.assertEqual(desk.next(), [1])
        self.assertEqual(desk.judge([0] * 1500), [-8, 1, 0, 0])
        self.assertEqual(desk.next(), [-4])

    def test_read_of_another_mend_changes_nothing(self):
        desk = Desk()
        self.assertEqual(desk.read(2), [-1])
        self.assertEqual(desk.next(), [-4])
        desk.read(0)
        desk.feed(0, small_reel().data)
        self.assertEqual(desk.read(HUGE), [-1])
        self.assertEqual(desk.next(), [1])

    def test_read_begins_anew(self):
        desk = Desk()
        desk.read(1)
        desk.feed(0, rich_reel().data)
        self.assertEqual(desk.next(), [1])
        self.assertEqual(desk.read(0), [0])
        self.assertEqual(desk.next(), [0])
        self.assertEqual(desk.stream(0), [-4])
        self.assertEqual(desk.feed(1, [77]), [1])
        self.assertEqual(desk.next(), [4, 1, 0, 0])

    def test_feed_of_another_last_changes_nothing(self):
        desk = Desk()
        desk.read(0)
        self.assertEqual(desk.feed(2, [1]), [-1])
        self.assertEqual(desk.feed(HUGE, [0] * 3000), [-1])
        self.assertEqual(desk.next(), [0])
        self.assertEqual(desk.feed(1, [76]), [1])
        self.assertEqual(desk.feed(2, [1]), [-1])
        self.assertEqual(desk.next(), [4, 8, 0, 1])

    def test_feed_when_no_more_come(self):
        desk = Desk()
        desk.read(0)
        self.assertEqual(desk.feed(1), [0])
        self.assertEqual(desk.feed(0), [-4])
        self.assertEqual(desk.feed(1, [0] * 3000), [-4])
        self.assertEqual(desk.next(), [4, 8, 0, 0])
        self.assertEqual(desk.feed(0, [1]), [-4])

    def test_feed_when_the_end_was_told(self):
        desk = Desk()
        desk.read(0)
        self.assertEqual(desk.feed(0, [1]), [1])
        self.assertEqual(desk.next(), [4, 1, 0, 0])
        self.assertEqual(desk.feed(0, [1]), [0])
        self.assertEqual(desk.next(), [6])
        self.assertEqual(desk.feed(0, [1]), [-4])
        self.assertEqual(desk.feed(0, [0] * 3000), [-4])
        self.assertEqual(desk.next(), [6])
        self.assertEqual(desk.next(), [6])

    def test_feed_of_too_many_changes_nothing(self):
        desk = Desk()
        desk.read(1)
        self.assertEqual(desk.feed(1, [76] * 1501), [-2])
        self.assertEqual(desk.next(), [0])
        self.assertEqual(desk.feed(0, [76] * 1500), [2])
        self.assertEqual(desk.feed(0, [76] * 1499), [-2])
        self.assertEqual(desk.feed(0, [76] * 1498), [0])
        self.assertEqual(desk.next(), [4, 1, 0, 1])

    def test_fifteen_hundred_bytes_can_be_read(self):
        reel = small_reel()
        data = reel.data + [0] * (1500 - len(reel.data))
        desk = Desk()
        desk.read(1)
        at = 0
        for k in range(4):
            at += desk.feed(0, data[at:])[0]
            desk.next()
        self.assertEqual(desk.feed(1, data[at:]), [1])
        self.assertEqual(desk.next(), [4, 9, 0, len(reel.data)])
        rest = data[at + 1:]
        self.assertEqual(desk.feed(0, rest + [0]), [-2])
        self.assertEqual(desk.feed(0, rest), [len(rest)])
        self.assertEqual(desk.feed(1, [0]), [-2])
        self.assertEqual(desk.feed(1), [0])
        self.assertEqual(desk.next(), [5, -1])

    def test_last_counts_only_when_all_was_taken(self):
        reel = small_reel()
        desk = Desk()
        desk.read(0)
        self.assertEqual(desk.feed(1, reel.data), [reel.places[0]])
        self.assertEqual(desk.feed(1, reel.data[reel.places[0]:]), [0])
        self.assertEqual(desk.next(), [1])
        self.assertEqual(desk.next(), [0])
        self.assertEqual(desk.feed(0), [0])

    def test_last_with_no_bytes_counts_while_something_is_to_tell(self):
        reel = small_reel()
        desk = Desk()
        desk.read(0)
        desk.feed(0, reel.data)
        self.assertEqual(desk.feed(1), [0])
        self.assertEqual(desk.feed(0), [-4])
        self.assertEqual(desk.next(), [1])
        self.assertEqual(desk.next(), [4, 8, 0, reel.places[0]])

    def test_stream_before_the_head_was_told(self):
        reel = small_reel()
        desk = Desk()
        desk.read(0)
        self.assertEqual(desk.stream(0), [-4])
        desk.feed(0, reel.data)
        self.assertEqual(desk.stream(0), [-4])
        self.assertEqual(desk.stream(9), [-4])
        desk.next()
        self.assertEqual(desk.stream(0), [0, 7, 1, 1, 0, 0])
        self.assertEqual(desk.stream(1), [-1])
        self.assertEqual(desk.stream(HUGE), [-1])

    def test_stream_after_the_end(self):
        desk = Desk()
        desk.read(0)
        data = rich_reel().data
        taken = desk.feed(0, data)[0]
        desk.next()
        desk.feed(0, [1])
        self.assertEqual(desk.next(), [4, 1, 0, taken])
        self.assertEqual(desk.next(), [6])
        self.assertEqual(desk.stream(0), [0, 0, 1, 25, 2, 102, 105, 3, 1, 2, 3])
        self.assertEqual(desk.stream(1), [0, 255, 4294967295, 4294967294, 16] + [0] * 16 + [40] + [255] * 40)
        self.assertEqual(desk.stream(2), [0, 9, 1, 48000, 0, 0])
        self.assertEqual(desk.stream(3), [-1])

    def test_no_head_no_stream(self):
        desk = Desk()
        desk.read(1)
        desk.feed(0, box(72, [2]))
        self.assertEqual(desk.next(), [4, 4, 0, 12])
        self.assertEqual(desk.next(), [6])
        self.assertEqual(desk.stream(0), [-4])
