import unittest

from tests.desk import Desk, judge, knowing, read_all, told_of, writing
from tests.reels import (
    ENDS, HEAD, INDEX, KEY, PART, box, head_body, index_body, listed, number, part, part_body, reel_of, rich_reel,
    signed, small_reel, stream)

HUGE = 9007199254740991
MOST = 2 ** 32 - 1
TWO = [stream(), stream()]


class Write(unittest.TestCase):
    def right(self, streams):
        desk = Desk()
        self.assertEqual(desk.write(listed(streams)), [0])
        for k, one in enumerate(streams):
            kind, num, den, name, setup = one
            self.assertEqual(desk.stream(k), [0, kind, num, den, len(name)] + name + [len(setup)] + setup)
        self.assertEqual(desk.stream(len(streams)), [-1])
        self.assertEqual(desk.find(0, 0), [-6])
        boxes = box(HEAD, head_body(streams))
        boxes += box(INDEX, index_body([], len(boxes)))
        self.assertEqual(desk.end(), [0, len(boxes)] + boxes)

    def refused(self, numbers):
        desk = Desk()
        self.assertEqual(desk.write(numbers), [-1])
        self.assertEqual(desk.stream(0), [-4])
        self.assertEqual(desk.end(), [-4])

    def refused_streams(self, streams):
        self.refused(listed(streams))
        self.refused(listed(streams + [stream()]))

    def test_how_many(self):
        self.refused([])
        for count in range(1, 5):
            self.right([stream(count, 1, count)] * count)
        self.refused(listed([stream()] * 5))
        self.refused(listed([stream()] * 60))

    def test_lists_that_end_too_early(self):
        numbers = listed([stream(1, 2, 3, [4, 5], [6, 7, 8]), stream(9, 10, 11, [12], [13])])
        whole = len(listed([stream(1, 2, 3, [4, 5], [6, 7, 8])]))
        for size in range(len(numbers)):
            if size != whole:
                self.refused(numbers[:size])

    def test_numbers_left_over(self):
        for more in ([0], [1, 1, 1], [1, 1, 1, 0], [0, 1, 1, 0, 1]):
            self.refused(listed([stream()]) + more)
            self.refused(listed([stream()] * 4) + more)
        self.refused([0] * 300)
        self.refused([1] * 300)

    def test_lengths_that_reach_beyond_the_list(self):
        for size in (3, 16, 17, 300, 2 ** 31, HUGE):
            self.refused([0, 1, 1, size, 65, 66])
            self.refused([0, 1, 1, 0, size, 65, 66])
            self.refused([0, 1, 1, size])
            self.refused([0, 1, 1, 0, size])

    def test_bytes(self):
        self.right([stream(1, 1, 1, [0, 255], [255, 0])])
        for wrong in (256, 300, HUGE):
            self.refused_streams([stream(1, 1, 1, [1, wrong])])
            self.refused_streams([stream(1, 1, 1, [], [wrong, 1])])

    def test_kinds(self):
        self.right([stream(0), stream(127), stream(128), stream(255)])
        for kind in (256, HUGE):
            self.refused_streams([stream(kind)])

    def test_rates(self):
        self.right([stream(1, MOST, 1), stream(1, 1, MOST), stream(1, MOST, MOST - 1), stream(1, 1, 1)])
        for wrong in (0, MOST + 1, HUGE):
            self.refused_streams([stream(1, wrong, 1)])
            self.refused_streams([stream(1, 1, wrong)])
        self.refused_streams([stream(1, 0, 0)])

    def test_common_divisors(self):
        for num, den in ((2, 4), (4, 2), (2, 2), (MOST, MOST), (21, 35), (MOST, 3)):
            self.refused_streams([stream(1, num, den)])
        self.right([stream(1, 9, 4), stream(1, 1001, 30000)])

    def test_names_and_set_ups(self):
        full = stream(1, 1, 1, range(16), range(40))
        self.right([full])
        self.right([full] * 4)
        self.right([stream(1, 1, 1, [5] * 16), stream(1, 1, 1, [], [5] * 40)])
        self.refused_streams([stream(1, 1, 1, [5] * 17)])
        self.refused_streams([stream(1, 1, 1, [5] * 17, [6])])
        self.refused_streams([stream(1, 1, 1, [], [5] * 41)])

    def test_a_wrong_one_behind_right_ones(self):
        self.refused(listed([stream(), stream(), stream(), stream(1, 3, 6)]))

    def test_a_list_that_is_taken_apart_otherwise(self):
        self.right([stream(1, 1, 1, [1, 1, 1, 0, 0])])

    def test_it_begins_anew(self):
        desk = writing(rich_reel(), 3)
        self.assertEqual(desk.write(listed(small_reel().streams)), [0])
        self.assertEqual(desk.stream(1), [-1])
        boxes = small_reel().data[:small_reel().places[1]]
        self.assertEqual(desk.put(small_reel().parts[0]), [0, len(boxes)] + boxes)

    def test_of_a_record_that_reads_or_is_known(self):
        for desk in (read_all(rich_reel().data, 0), knowing(rich_reel().data)):
            self.assertEqual(desk.write(listed(TWO)), [0])
            self.assertEqual(desk.next(), [-4])
            self.assertEqual(desk.feed(0), [-4])
            self.assertEqual(desk.stream(1), [0, 7, 1, 1, 0, 0])
            self.assertEqual(desk.stream(2), [-1])
            self.assertEqual(desk.put(part(1))[0], 0)


class Put(unittest.TestCase):
    def right(self, parts, streams=None):
        reel = reel_of(parts, streams)
        desk = Desk()
        self.assertEqual(desk.write(listed(reel.streams)), [0])
        ends = reel.places[1:] + [reel.index]
        begin = 0
        for one, end in zip(parts, ends):
            self.assertEqual(desk.put(one), [0, end - begin] + reel.data[begin:end])
            begin = end
        self.assertEqual(desk.end(), [0, len(reel.data) - begin] + reel.data[begin:])
        if len(reel.data) <= 1500:
            self.assertEqual(judge(reel.data), [0])

    def refused(self, one, before=(), streams=None, answer=-1):
        """That part is refused behind those, and nothing has changed."""
        reel = reel_of(list(before), streams)
        desk = writing(reel, len(before))
        self.assertEqual(desk.put(one), [answer])
        begin = reel.index if before else 0
        self.assertEqual(desk.end(), [0, len(reel.data) - begin] + reel.data[begin:])

    def test_reels(self):
        for reel in (small_reel(), rich_reel()):
            self.right(reel.parts, reel.streams)

    def test_the_forms_to_the_byte(self):
        desk = Desk()
        desk.write([200, 300, 7, 1, 65, 2, 66, 67])
        head = [1, 1, 200, 1, 172, 2, 7, 1, 65, 2, 66, 67]
        first = [76, 119, 142, 72, 12, 0, 0, 0]
        self.assertEqual(desk.put(part(0, -3, 128, KEY, [9]))[:10], [0, len(head) + 16 + 6 + 16] + first)
        told = desk.put(part(0, 200, 0, 0, []))
        self.assertEqual(told[:10], [0, 21, 76, 119, 142, 80, 5, 0, 0, 0])
        self.assertEqual(told[14:19], [0, 144, 3, 0, 0])
        told = desk.end()
        index = [2, 0, 5, 128, 1, 1, 1, 0, 150, 3, 0, 0, 0]
        place = [71, 0, 0, 0, 0, 0, 0, 0, 76, 119, 142, 46]
        self.assertEqual(told[14:-4], index + place)

    def test_it_does_not_write(self):
        wrong = (9, HUGE, HUGE, HUGE, [1] * 601)
        for desk in (Desk(), read_all(small_reel().data, 0), knowing(small_reel().data)):
            self.assertEqual(desk.put(part()), [-4])
            self.assertEqual(desk.put(wrong), [-4])

    def test_bodies(self):
        self.right([part(data=[3] * 596)])
        self.right([part(data=[1] * 596), part(data=[2] * 596)])
        self.refused(part(data=[3] * 597))
        wide = part(0, 2 ** 50, MOST, KEY, [3] * 585)
        self.assertEqual(len(part_body(wide)), 600)
        self.right([wide])
        self.refused(part(0, 2 ** 50, MOST, KEY, [3] * 586))
        for size in (600, 601, 1500, 3000):
            self.refused(part(data=[0] * size), [part()])

    def test_streams(self):
        self.refused(part(1))
        self.refused(part(2), [part(0)], TWO)
        self.refused(part(HUGE), [part(0)], TWO)
        self.right([part(3), part(0)], [stream()] * 4)

    def test_times(self):
        wide = [stream(1, 1, MOST)]
        self.right([part(time=1 - 2 ** 50), part(time=2 ** 50)], wide)
        for time in (-2 ** 50, -2 ** 50 - 1, 2 ** 50 + 1, HUGE, -HUGE):
            self.refused(part(time=time))
            self.refused(part(time=time), [part()], wide)

    def test_lengths(self):
        self.right([part(length=MOST), part(length=0)])
        for length in (MOST + 1, HUGE):
            self.refused(part(length=length), [part()])

    def test_flags(self):
        self.right([part(flags=1), part(flags=0), part(flags=3)])
        self.right([part(flags=1), part(flags=2)])
        for flags in (4, 5, 129, HUGE):
            self.refused(part(flags=flags), [part()])

    def test_time_that_falls(self):
        self.refused(part(0, 4), [part(0, 5)])
        self.refused(part(1, 4), [part(1, 5), part(0, 6)], TWO)
        self.right([part(0, 5), part(0, 5)])
        self.right([part(0, 5), part(1, 4), part(0, 5)], TWO)

    def test_ten_seconds(self):
        self.right([part(0, 10), part(1, 0)], TWO)
        self.refused(part(1, 0), [part(0, 11)], TWO)
        streams = [stream(1, 1, 3), stream(1, 2, 7)]
        self.right([part(0, 30), part(1, 0)], streams)
        self.refused(part(1, 0), [part(0, 31)], streams)
        self.right([part(0, 36), part(1, 7)], streams)
        self.refused(part(1, 6), [part(0, 36)], streams)
        self.right([part(1, -35), part(0, -60)], streams)
        self.refused(part(0, -61), [part(1, -35)], streams)

    def test_ten_seconds_to_the_last_digit(self):
        streams = [stream(1, 1, MOST), stream(1, 1, MOST - 1)]
        self.right([part(0, 10 * MOST), part(1, 0)], streams)
        self.refused(part(1, 0), [part(0, 10 * MOST + 1)], streams)
        self.right([part(0, 10 * MOST + 1), part(1, 1)], streams)

    def test_ten_seconds_of_the_part_before_alone(self):
        self.right([part(0, 20), part(1, 10), part(2, 0)], [stream()] * 3)
        self.refused(part(2, -1), [part(0, 20), part(1, 10)], [stream()] * 3)

    def test_behind_its_streams_end(self):
        before = [part(0), part(1, flags=KEY + ENDS), part(0, 4)]
        self.refused(part(1, 9), before, TWO)
        self.right(before + [part(0, 9)], TWO)

    def test_key(self):
        for flags in (0, ENDS):
            self.refused(part(flags=flags))
            self.refused(part(1, flags=flags), [part(0)], TWO)

    def test_seventeen(self):
        sixteen = [part(time=k, data=[k]) for k in range(16)]
        self.right(sixteen)
        self.refused(part(time=16), sixteen, answer=-7)
        self.refused(part(1), sixteen, TWO, answer=-1)
        self.refused(part(1, 15), sixteen, TWO, answer=-7)

    def test_the_seventeenth_that_is_wrong_besides(self):
        sixteen = [part(time=k) for k in range(16)]
        wrong = (part(2), part(time=14), part(time=16, flags=4), part(time=16, length=MOST + 1),
                 part(time=2 ** 50 + 1), part(time=16, data=[0] * 597), part(1, 5, flags=0), part(1, 4))
        for one in wrong:
            self.refused(one, sixteen, TWO)
        ended = sixteen[:15] + [part(time=15, flags=ENDS)]
        self.refused(part(time=16), ended)

    def test_a_refused_part_counts_for_nothing(self):
        desk = writing(small_reel(), 1)
        self.assertEqual(desk.put(part(0, 100, flags=KEY + ENDS, data=[0] * 600)), [-1])
        self.assertEqual(desk.put(part(0, 0))[0], 0)

    def test_places_of_long_reels(self):
        parts = [part(time=k, data=[k] * 590) for k in range(16)]
        reel = reel_of(parts)
        desk = writing(reel, 16)
        self.assertEqual(desk.find(0, 15), reel.found(15))
        self.right(parts)


class End(unittest.TestCase):
    def test_it_does_not_write(self):
        for desk in (Desk(), read_all(small_reel().data, 1), knowing(small_reel().data)):
            self.assertEqual(desk.end(), [-4])

    def known(self, reel):
        desk = writing(reel, len(reel.parts))
        begin = reel.index if reel.parts else 0
        self.assertEqual(desk.end(), [0, len(reel.data) - begin] + reel.data[begin:])
        self.assertEqual(desk.end(), [-4])
        self.assertEqual(desk.put(part()), [-4])
        self.assertEqual(desk.put(part(9)), [-4])
        self.assertEqual(desk.feed(0), [-4])
        self.assertEqual(desk.next(), [-4])
        for k in range(len(reel.streams)):
            self.assertEqual(desk.stream(k), reel.told_stream(k))
        self.assertEqual(desk.stream(len(reel.streams)), [-1])
        self.assertEqual(desk.find(len(reel.streams), 0), [-1])
        return desk

    def test_without_parts(self):
        for count in (1, 4):
            desk = self.known(reel_of([], [stream(3, 2, 5, [1], [2])] * count))
            self.assertEqual(desk.find(0, 0), [-6])

    def test_with_parts(self):
        desk = self.known(rich_reel())
        self.assertEqual(desk.find(2, 48000), rich_reel().found(1))
        self.assertEqual(desk.find(1, -5), rich_reel().found(3))

    def test_head_goes_ahead_once(self):
        reel = small_reel()
        desk = writing(reel)
        told = [desk.put(one)[2:] for one in reel.parts] + [desk.end()[2:]]
        self.assertEqual([row[3] for row in told], [HEAD, PART, INDEX])
        self.assertEqual(sum(told, []), reel.data)

    def test_judged_and_read(self):
        desk = writing(rich_reel())
        data = sum([desk.put(one)[2:] for one in rich_reel().parts], [])
        data += desk.end()[2:]
        self.assertEqual(desk.judge(data), [0])
        self.assertEqual(told_of(data, 0), rich_reel().told())


class Helpers(unittest.TestCase):
    def test_numbers_of_the_tests_own(self):
        self.assertEqual(number(300) + signed(200) + signed(-3), [172, 2, 144, 3, 5])
