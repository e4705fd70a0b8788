import unittest

from tests.desk import judge, play, told_of
from tests.reels import (
    ENDS, HEAD, INDEX, KEY, MARK, PART, box, crc, head_body, index_body, index_numbers, index_tail, number, opening,
    part, part_body, reel_of, rich_reel, signed, small_reel, stream, string, with_index, with_part)

BODY = 12
TWO = [stream(), stream()]


class Strict(unittest.TestCase):
    def fault(self, data, kind, which, place, taken=None):
        """That fault is the first, by judge and by reading; it is told with so many bytes taken (else: all)."""
        self.assertEqual(judge(data), [-8, kind, which, place])
        told = play([data], 0)
        count = len(data) if taken is None else taken
        self.assertEqual(told[-2:], [([4, kind, which, place], count), ([6], count)])
        self.assertTrue(all(thing[0] in (1, 2, 3) for thing, _ in told[:-2]))
        return [thing for thing, _ in told[:-2]]

    def right(self, reel):
        self.assertEqual(judge(reel.data), [0])
        self.assertEqual(told_of(reel.data, 0), reel.told())

    def head_fault(self, body, at):
        self.assertEqual(self.fault(box(HEAD, body), 4, 0, BODY + at), [])

    def part_fault(self, body, kind, which, at, before=(), streams=None):
        data, place = with_part(body, before, streams)
        told = self.fault(data, kind, which, place + BODY + at)
        self.assertEqual(len(told), 1 + len(before))

    def index_fault(self, reel, body, kind, at):
        data = with_index(reel, body)
        self.fault(data, kind, 0, reel.index + BODY + at)


class Right(Strict):
    def test_reels(self):
        for reel in (small_reel(), rich_reel(), reel_of([]), reel_of([], [stream()] * 4)):
            self.right(reel)

    def test_moments(self):
        reel = rich_reel()
        moments = [taken for _, taken in play([reel.data], 0)]
        self.assertEqual(moments, reel.places + [reel.index] + [len(reel.data)] * 2)

    def test_end_comes_when_no_more_bytes_do(self):
        told = play([small_reel().data, []], 0)
        self.assertEqual(told[-1], ([6], len(small_reel().data)))


class FaultOne(Strict):
    def test_mark_of_the_head(self):
        for k in range(3):
            data = small_reel().data
            data[k] ^= 1
            self.fault(data, 1, 0, k, k + 1)

    def test_mark_of_later_boxes(self):
        reel = small_reel()
        for place in reel.places + [reel.index]:
            for k in range(3):
                data = list(reel.data)
                data[place + k] ^= 128
                self.fault(data, 1, 0, place + k, place + k + 1)

    def test_kinds_where_the_head_is_due(self):
        for kind in (PART, INDEX, 0, 255):
            self.fault(box(kind, head_body([stream()])), 1, 0, 3, 4)

    def test_kinds_behind_the_head(self):
        reel = small_reel()
        for place in (reel.places[0], reel.places[1], reel.index):
            for kind in (HEAD, 0, 81, 255):
                data = reel.data[:place] + box(kind, [0])
                self.fault(data, 1, 0, place + 3, place + 4)

    def test_sixteen_and_seventeen_parts(self):
        self.right(reel_of([part(time=k) for k in range(16)]))
        reel = reel_of([part(time=k) for k in range(17)])
        told = self.fault(reel.data, 1, 0, reel.places[16] + 3, reel.places[16] + 4)
        self.assertEqual(told, reel.told()[:17])


class FaultsTwoAndThree(Strict):
    def test_length(self):
        at = small_reel().places[0]
        head = small_reel().data[:at]
        for length in (601, 65536, 2 ** 32 - 1):
            self.fault(opening(HEAD, length), 2, 0, 4, 8)
            self.fault(head + opening(PART, length) + [0] * 9, 2, 0, at + 4, at + 8)
            self.fault(head + opening(INDEX, length), 2, 0, at + 4, at + 8)

    def test_length_is_told_only_when_all_of_it_is_there(self):
        self.fault(opening(HEAD, 601)[:7], 8, 0, 7)

    def test_length_of_600(self):
        reel = reel_of([part(data=[3] * 596)])
        self.right(reel)
        data, place = with_part([0, 0, 0, 1] + [3] * 597)
        self.fault(data, 2, 0, place + 4, place + 8)

    def test_crc_of_the_eight(self):
        reel = small_reel()
        for place in [0] + reel.places + [reel.index]:
            for k in (4, 8, 9, 10, 11):
                data = list(reel.data)
                data[place + k] ^= 2
                self.fault(data, 3, 0, place + 8, place + 12)

    def test_crc_of_the_eight_is_told_only_when_all_of_it_is_there(self):
        self.fault(MARK + [HEAD, 9, 0, 0, 0, 1, 2, 3], 8, 0, 11)


class FaultSix(Strict):
    def test_crc_of_the_body(self):
        reel = small_reel()
        ends = reel.places + [reel.index, len(reel.data)]
        for place, end in zip([0] + ends, ends):
            for at in list(range(place + 12, end)):
                data = list(reel.data)
                data[at] ^= 64
                self.fault(data, 6, 0, end - 4, end)

    def test_it_goes_before_what_is_in_the_body(self):
        data = box(HEAD, [9])
        data[-1] ^= 1
        self.fault(data, 6, 0, 13, 17)


class FaultFourInTheHead(Strict):
    def test_first_number(self):
        for first in (0, 2, 127):
            self.head_fault([first] + head_body([stream()])[1:], 0)
        self.head_fault([129, 0] + head_body([stream()])[1:], 0)

    def test_number_of_streams(self):
        for count in (0, 5, 200):
            self.head_fault([1] + number(count) + head_body([stream()] * 4)[2:], 1)

    def test_kind(self):
        self.right(reel_of([], [stream(255), stream(0)]))
        self.head_fault(head_body([stream(256)]), 2)

    def test_rates(self):
        most = 2 ** 32 - 1
        self.right(reel_of([], [stream(1, most, 1), stream(1, 1, most), stream(1, most, most - 1), stream(1, 1, 1)]))
        self.head_fault(head_body([stream(1, 0, 1)]), 3)
        self.head_fault(head_body([stream(1, most + 1, 1)]), 3)
        self.head_fault(head_body([stream(1, 300, 0)]), 5)
        self.head_fault(head_body([stream(1, 1, most + 1)]), 4)
        for num, den in ((2, 4), (4, 2), (2, 2), (most, most), (21, 35), (most, 3)):
            self.head_fault(head_body([stream(1, num, den)]), 3 + len(number(num)))

    def test_names_and_set_ups(self):
        self.right(reel_of([], [stream(1, 1, 1, range(16), range(40)), stream(1, 1, 1, [255] * 16)]))
        self.head_fault(head_body([stream(1, 1, 1, [0] * 17)]), 5)
        self.head_fault(head_body([stream(1, 1, 1, [65], [0] * 41)]), 7)
        self.head_fault([1, 1, 1, 1, 1, 3, 65, 66], 5)
        self.head_fault([1, 1, 1, 1, 1, 3], 5)
        self.head_fault([1, 1, 1, 1, 1, 0, 40] + [0] * 39, 6)
        self.head_fault([1, 1, 1, 1, 1] + number(2 ** 64 - 1), 5)
        self.head_fault([1, 1, 1, 1, 1, 129, 0, 65, 0], 5)

    def test_ended_too_early(self):
        body = head_body([stream(200, 300, 7), stream(1, 2 ** 32 - 1, 1)])
        for size in range(len(body)):
            self.head_fault(body[:size], size)

    def test_left_over(self):
        body = head_body([stream()])
        self.head_fault(body + [0], len(body))
        self.head_fault(body + body, len(body))

    def test_numbers(self):
        self.head_fault([1, 129, 0, 1, 1, 1, 0, 0], 1)
        self.head_fault([1, 1] + [255] * 9, 11)
        self.head_fault([1, 1] + [255] * 10, 2)
        self.head_fault([1, 1] + [128] * 9 + [0, 1, 1, 0, 0], 2)
        self.head_fault([1, 1] + number(2 ** 64 - 1) + [1, 1, 0, 0], 2)

    def test_the_first_of_several(self):
        self.head_fault(head_body([stream(256, 0, 0)]), 2)
        self.head_fault(head_body([stream(1, 0, 0)]), 3)


class FaultFourInAPart(Strict):
    def test_stream(self):
        self.part_fault(part_body(part(1)), 4, 0, 0)
        self.part_fault(part_body(part(2)), 4, 0, 0, streams=TWO)
        self.part_fault([129, 0, 0, 0, 1], 4, 0, 0, streams=TWO)
        self.part_fault([255] * 10, 4, 0, 0, streams=TWO)

    def test_time(self):
        most = 2 ** 50
        wide = [stream(1, 1, 2 ** 32 - 1)]
        self.right(reel_of([part(time=1 - most), part(time=most)], wide))
        self.part_fault(part_body(part(1, most + 1)), 4, 1, 1, streams=TWO)
        self.part_fault(part_body(part(1, -most)), 4, 1, 1, streams=TWO)
        self.part_fault([1] + number(2 ** 64 - 1) + [0, 1], 4, 1, 1, streams=TWO)
        self.part_fault([1] + number(2 ** 64) + [0, 1], 4, 1, 1, streams=TWO)
        self.part_fault([1, 128, 0, 0, 1], 4, 1, 1, streams=TWO)

    def test_length(self):
        self.right(reel_of([part(length=2 ** 32 - 1)]))
        self.part_fault(part_body(part(1, 300, 2 ** 32)), 4, 1, 3, streams=TWO)
        self.part_fault([1, 0, 128, 0, 1], 4, 1, 2, streams=TWO)

    def test_flags(self):
        for flags in (4, 128, 129, 2 ** 40):
            self.part_fault(part_body(part(1, 0, 500, flags)), 4, 1, 4, streams=TWO)
        self.part_fault([1, 0, 0, 129, 0], 4, 1, 3, streams=TWO)

    def test_ended_too_early(self):
        self.part_fault([], 4, 0, 0, streams=TWO)
        self.part_fault([129], 4, 0, 1, streams=TWO)
        body = part_body(part(1, 2 ** 50, 2 ** 32 - 1))
        for size in range(1, len(body)):
            self.part_fault(body[:size], 4, 1, size, streams=TWO)
        self.part_fault([1] + [255] * 9, 4, 1, 10, streams=TWO)
        self.part_fault([1] + [255] * 10, 4, 1, 1, streams=TWO)

    def test_form_goes_before_order(self):
        before = [part(1, 100, flags=KEY + ENDS)]
        self.part_fault(part_body(part(1, 5, 0, 4)), 4, 1, 3, before, TWO)
        self.part_fault([1, 10, 0], 4, 1, 3, before, TWO)


class FaultFive(Strict):
    def test_behind_its_streams_end(self):
        before = [part(0), part(1, flags=KEY + ENDS), part(0, 4)]
        self.part_fault(part_body(part(1, 9)), 5, 1, 0, before, TWO)
        self.right(reel_of(before + [part(0, 9)], TWO))

    def test_time_falls(self):
        self.part_fault(part_body(part(0, 4)), 5, 0, 1, [part(0, 5)])
        self.part_fault(part_body(part(1, 4)), 5, 1, 1, [part(1, 5), part(0, 6)], TWO)
        self.right(reel_of([part(0, 5), part(0, 5)]))
        self.right(reel_of([part(0, 5), part(1, 4)], TWO))

    def test_ten_seconds(self):
        self.right(reel_of([part(0, 10), part(1, 0)], TWO))
        self.part_fault(part_body(part(1, 0)), 5, 1, 1, [part(0, 11)], TWO)
        streams = [stream(1, 1, 3), stream(1, 2, 7)]
        self.right(reel_of([part(0, 30), part(1, 0)], streams))
        self.part_fault(part_body(part(1, 0)), 5, 1, 1, [part(0, 31)], streams)
        self.right(reel_of([part(0, 36), part(1, 7)], streams))
        self.part_fault(part_body(part(1, 6)), 5, 1, 1, [part(0, 36)], streams)
        self.right(reel_of([part(1, -35), part(0, -60)], streams))
        self.part_fault(part_body(part(0, -61)), 5, 0, 1, [part(1, -35)], streams)

    def test_ten_seconds_of_the_part_before_alone(self):
        streams = [stream()] * 3
        self.right(reel_of([part(0, 20), part(1, 10), part(2, 0)], streams))

    def test_ten_seconds_to_the_last_digit(self):
        most = 2 ** 32 - 1
        streams = [stream(1, 1, most), stream(1, 1, most - 1)]
        time = 10 * most + 1
        self.part_fault(part_body(part(1, 0)), 5, 1, 1, [part(0, time)], streams)
        self.right(reel_of([part(0, time), part(1, 1)], streams))
        self.right(reel_of([part(0, time - 1), part(1, 0)], streams))

    def test_key(self):
        for flags in (0, ENDS):
            self.part_fault(part_body(part(0, 0, 300, flags)), 5, 0, 4)
            self.part_fault(part_body(part(1, 0, 0, flags)), 5, 1, 3, [part(0)], TWO)
        self.right(reel_of([part(0), part(0, flags=0), part(1), part(1, flags=ENDS)], TWO))

    def test_the_first_of_several(self):
        self.part_fault(part_body(part(1, 1)), 5, 1, 0, [part(1, 50, flags=KEY + ENDS)], TWO)
        self.part_fault(part_body(part(1, 0, 0, 0)), 5, 1, 1, [part(0, 11)], TWO)


class FaultSeven(Strict):
    def test_each_number(self):
        reel = rich_reel()
        rows = index_numbers(reel.parts)
        at = 0
        for k, row in enumerate(rows):
            others = [number(value) for value in (0, 1, 77, 2 ** 64 - 1) if number(value) != row]
            for other in others:
                body = sum(rows[:k] + [other] + rows[k + 1:], []) + index_tail(reel.index)
                self.index_fault(reel, body, 7, at)
            at += len(row)

    def test_times_of_the_streams_own_part_before(self):
        reel = reel_of([part(0, 7), part(1, 9), part(0, 8)], TWO)
        self.right(reel)
        numbers = [3, 0, 14, 0, 1, 0, 1, 4, 0, 1, 0, 0, 2, 0, 1, 0]
        self.index_fault(reel, numbers + index_tail(reel.index), 7, 7)

    def test_count(self):
        reel = small_reel()
        self.index_fault(reel, index_body(reel.parts[:1], reel.index), 7, 0)
        self.index_fault(reel, index_body(reel.parts + [part(0, 9)], reel.index), 7, 0)
        self.index_fault(reel_of([]), index_body(reel.parts, reel_of([]).index), 7, 0)

    def test_place(self):
        reel = small_reel()
        size = sum(len(row) for row in index_numbers(reel.parts))
        for k in range(8):
            body = index_body(reel.parts, reel.index)
            body[size + k] ^= 16
            self.index_fault(reel, body, 7, size + k)
            self.index_fault(reel, body[:size + k + 1], 7, size + k)

    def test_form_is_a_fault_four(self):
        reel = small_reel()
        rows = index_numbers(reel.parts)
        at = 0
        for k, row in enumerate(rows):
            for other in ([row[0] | 128, 0], [255] * 10, number(2 ** 64)):
                body = sum(rows[:k] + [other] + rows[k + 1:], []) + index_tail(reel.index)
                self.index_fault(reel, body, 4, at)
            at += len(row)

    def test_ended_too_early(self):
        reel = small_reel()
        body = index_body(reel.parts, reel.index)
        for size in range(len(body)):
            self.index_fault(reel, body[:size], 4, size)
        self.index_fault(reel, [2, 0] + [128] * 9, 4, 11)

    def test_last_four(self):
        reel = small_reel()
        size = len(index_body(reel.parts, reel.index))
        for k in range(1, 5):
            body = index_body(reel.parts, reel.index)
            body[-k] ^= 1
            self.index_fault(reel, body, 4, size - k)

    def test_left_over(self):
        reel = small_reel()
        body = index_body(reel.parts, reel.index)
        self.index_fault(reel, body + [0], 4, len(body))


class FaultsEightAndNine(Strict):
    def test_cut_anywhere(self):
        reel = small_reel()
        for size in range(len(reel.data)):
            self.fault(reel.data[:size], 8, 0, size)

    def test_cut_before_what_the_body_would_tell(self):
        data = box(HEAD, [9])
        self.fault(data[:-1], 8, 0, 16)

    def test_a_byte_behind(self):
        for reel in (small_reel(), rich_reel()):
            size = len(reel.data)
            for more in ([0], [76], reel.data[:50]):
                told = self.fault(reel.data + more, 9, 0, size, size + 1)
                self.assertEqual(told, reel.told()[:-1])


class Helpers(unittest.TestCase):
    def test_forms_of_the_tests_own(self):
        self.assertEqual(box(HEAD, [])[-4:], crc([]))
        self.assertEqual(crc([]), [0, 0, 0, 0])
        self.assertEqual(signed(-1) + string([9]), [1, 1, 9])
