import unittest

from tests.desk import Desk, knowing, read_all, writing
from tests.reels import (
    ENDS, HEAD, INDEX, KEY, MARK, PART, Reel, box, changed, head_body, index_body, index_numbers, index_tail, number,
    opening, part, part_body, reel_of, rich_reel, small_reel, stream, with_index)

MOST = 2 ** 32 - 1
TWO = [stream(), stream()]


def full_reel():
    return reel_of([part(k % 4, k // 4, k, KEY, [k] * k) for k in range(16)], [stream(k, 1, 1, [k]) for k in range(4)])


def long_reel():
    return reel_of([part(0, k, 0, KEY, [k] * 590) for k in range(4)])


def times_about(reel, which):
    """Times before, at, between and behind those of the stream's parts."""
    times = [one[1] for one in reel.parts if one[0] == which]
    near = [time + k for time in times for k in (-1, 0, 1)]
    return sorted(set(near + [0, -2 ** 53 + 1, 2 ** 53 - 1]))


class Seeking(unittest.TestCase):
    def known(self, data, reel):
        """Those bytes are known, and as that reel."""
        desk = Desk()
        self.assertEqual(desk.seek(data), [0])
        for k in range(len(reel.streams)):
            self.assertEqual(desk.stream(k), reel.told_stream(k))
        self.assertEqual(desk.stream(len(reel.streams)), [-1])
        for k, one in enumerate(reel.parts):
            others = [other[1] for other in reel.parts[k + 1:] if other[0] == one[0]]
            if one[3] & KEY and one[1] not in others:
                self.assertEqual(desk.find(one[0], one[1]), reel.found(k))

    def not_known(self, data):
        """They can't be known, and whatever the record was, it is empty then."""
        reel = small_reel()
        for before in (Desk(), read_all(reel.data, 0), writing(reel, 1), knowing(reel.data)):
            self.assertEqual(before.seek(data), [-8])
            self.empty(before)

    def empty(self, desk):
        self.assertEqual(desk.stream(0), [-4])
        self.assertEqual(desk.find(0, 0), [-4])
        self.assertEqual(desk.next(), [-4])
        self.assertEqual(desk.put(part(0, 9)), [-4])
        self.assertEqual(desk.end(), [-4])

    def as_read(self, reel):
        """stream and find answer as they do when all of the reel was read."""
        for mend in (0, 1):
            read, sought = read_all(reel.data, mend), knowing(reel.data)
            for k in range(len(reel.streams) + 1):
                self.assertEqual(sought.stream(k), read.stream(k))
                for time in times_about(reel, k):
                    self.assertEqual(sought.find(k, time), read.find(k, time))


class Known(Seeking):
    def test_right_reels(self):
        for reel in (small_reel(), rich_reel(), full_reel(), reel_of([]), reel_of([], [stream()] * 4),
                     reel_of([part(data=[8] * 596)] * 2)):
            self.known(reel.data, reel)

    def test_what_reading_all_tells(self):
        wide = [stream(1, 1, MOST)]
        for reel in (small_reel(), rich_reel(), full_reel(), reel_of([], TWO),
                     reel_of([part(time=1 - 2 ** 50, length=MOST), part(time=2 ** 50, data=[1] * 300)], wide),
                     reel_of([part(data=[8] * 596)])):
            self.as_read(reel)

    def test_what_was_written(self):
        reel = rich_reel()
        written, sought = writing(reel, len(reel.parts)), knowing(reel.data)
        written.end()
        for k in range(4):
            self.assertEqual(sought.stream(k), written.stream(k))
            for time in times_about(reel, k):
                self.assertEqual(sought.find(k, time), written.find(k, time))

    def test_it_neither_reads_nor_writes(self):
        desk = knowing(small_reel().data)
        self.assertEqual(desk.feed(0), [-4])
        self.assertEqual(desk.feed(2), [-4])
        self.assertEqual(desk.next(), [-4])
        self.assertEqual(desk.put(part()), [-4])
        self.assertEqual(desk.end(), [-4])

    def test_of_any_record(self):
        reel, other = small_reel(), rich_reel()
        for desk in (read_all(other.data, 0), writing(other, 3), knowing(other.data)):
            self.assertEqual(desk.seek(reel.data), [0])
            self.assertEqual(desk.stream(1), [-1])
            self.assertEqual(desk.find(0, 0), reel.found(0))
            self.assertEqual(desk.next(), [-4])
            self.assertEqual(desk.put(part(0, 9)), [-4])

    def test_bytes_changed_where_it_does_not_look(self):
        for reel in (small_reel(), rich_reel()):
            for at in range(reel.places[0], reel.index):
                self.assertEqual(Desk().seek(changed(reel.data, at, 85)), [0])
            data = reel.data[:reel.places[0]] + [0] * (reel.index - reel.places[0]) + reel.data[reel.index:]
            self.known(data, reel)

    def test_more_than_fifteen_hundred_bytes(self):
        reel = long_reel()
        self.assertGreater(len(reel.data), 1500)
        self.assertEqual(Desk().judge(reel.data), [-2])
        self.known(reel.data, reel)
        self.not_known(changed(reel.data, -1))
        self.not_known([0] * 3000)


class NotKnown(Seeking):
    def test_too_few_bytes(self):
        reel = reel_of([])
        self.assertEqual(len(reel.data), 52)
        for size in (0, 1, 8, 15, 16, 47, 48, 51):
            self.not_known(reel.data[:size])
            self.not_known(reel.data[52 - size:])
            self.not_known([0] * size)
            self.not_known(small_reel().data[len(small_reel().data) - size:])

    def test_any_byte_of_the_index_or_the_head_changed(self):
        reel = small_reel()
        for at in list(range(reel.places[0])) + list(range(reel.index, len(reel.data))):
            self.not_known(changed(reel.data, at, 16))

    def test_bytes_behind_or_before(self):
        reel = small_reel()
        self.not_known(reel.data + [0])
        self.not_known([0] + reel.data)
        self.not_known(reel.data[:-1])
        self.not_known(reel.data[1:])
        self.not_known(reel.data + reel.data)

    def test_the_last_eight(self):
        reel = small_reel()
        for k in range(4):
            self.not_known(with_index(reel, changed(index_body(reel.parts, reel.index), -1 - k, 2)))
        self.not_known(with_index(reel, index_body(reel.parts, reel.index)[:-4]))
        self.not_known(with_index(reel, index_body(reel.parts, reel.index) + [0]))

    def test_the_place(self):
        reel = small_reel()
        size = len(reel.data)
        far = (15, 16, 17, 616, 617, size, 0, -1, -16)
        for place in [size - back for back in far if back <= size] + [reel.index - 1, reel.index + 1, reel.places[1]]:
            self.not_known(with_index(reel, index_body(reel.parts, place)))
        for place in (2 ** 32 + reel.index, 2 ** 56 + reel.index, 2 ** 63, 2 ** 64 - 1, 2 ** 64 - 16):
            self.not_known(with_index(reel, index_body(reel.parts, place)))

    def test_a_place_of_a_whole_box_too_near_or_too_far(self):
        reel = reel_of([part(data=[1] * 596)])
        for extra in (599 - 13, 600 - 13, 601 - 13, 700):
            body = [0] * (1 + extra) + index_tail(reel.index)
            self.not_known(with_index(reel, body))
        near = reel.data[:reel.index] + list((reel.index + 16 - 15).to_bytes(8, "little")) + MARK + [46] + [0] * 4
        self.not_known(near)

    def test_the_box_there_does_not_reach_the_end(self):
        reel = small_reel()
        self.not_known(reel.data + list(reel.index.to_bytes(8, "little")) + MARK + [46, 0, 0, 0, 0])
        self.not_known(reel.data + index_tail(reel.index) + reel.data[-4:])

    def test_the_box_there_reaches_beyond_the_end(self):
        reel = small_reel()
        body = index_body(reel.parts, reel.index)
        for length in (len(body) - 1, len(body) + 1, 600, 601, 2 ** 32 - 1):
            rest = reel.data[reel.index + 12:]
            self.not_known(reel.data[:reel.index] + opening(INDEX, length) + rest)

    def test_the_box_there_is_of_another_kind(self):
        reel = small_reel()
        body = index_body(reel.parts, reel.index)
        for kind in (PART, HEAD, 0, 255):
            self.not_known(reel.data[:reel.index] + box(kind, body))

    def test_no_box_there(self):
        reel = small_reel()
        data = reel.data[:reel.index + 3] + index_tail(reel.index) + [0] * 4
        self.not_known(data)


class HeadNotKnown(Seeking):
    def with_head(self, begin, parts):
        """A reel whose head's box has those bytes, and whose index fits them."""
        data = begin + sum([box(PART, part_body(one)) for one in parts], [])
        return data + box(INDEX, index_body(parts, len(data)))

    def test_not_a_head(self):
        parts = [part(), part(time=1)]
        right = box(HEAD, head_body([stream()]))
        self.assertEqual(Desk().seek(self.with_head(right, parts)), [0])
        for kind in (PART, INDEX, 0):
            self.not_known(self.with_head(box(kind, head_body([stream()])), parts))
        self.not_known(self.with_head([], parts))
        self.not_known(self.with_head([0] + right, parts))
        self.not_known(self.with_head(right + [0], parts))

    def test_a_head_of_a_wrong_form(self):
        bodies = ([2] + head_body([stream()])[1:], head_body([]), head_body([stream()] * 5), head_body([stream(256)]),
                  head_body([stream(1, 2, 4)]), head_body([stream(1, 1, 1, [0] * 17)]), head_body([stream()]) + [0],
                  head_body([stream()])[:-1], head_body([stream(1, 1, 1, [], [0] * 41)]), [])
        for body in bodies:
            self.not_known(self.with_head(box(HEAD, body), [part(), part(time=1)]))

    def test_a_head_that_is_cut(self):
        parts = [part(), part(time=1)]
        for length in (8, 120, 600, 601):
            self.not_known(self.with_head(opening(HEAD, length) + head_body([stream()]) + [0] * 4, parts))

    def test_a_head_that_reaches_into_the_index(self):
        data = self.with_head(box(HEAD, head_body([stream()])), [])
        self.not_known(opening(HEAD, 20) + data[12:])


class IndexNotKnown(Seeking):
    def test_wrong_forms(self):
        reel = reel_of([part(0, 2), part(1, 3)], TWO)
        rows = index_numbers(reel.parts)
        tail = index_tail(reel.index)
        self.assertEqual(Desk().seek(with_index(reel, sum(rows, []) + tail)), [0])
        wrong = {0: [17, 3, 1], 1: [2, 7], 2: [2 ** 51 + 2, 2 ** 51 - 1, 2 ** 64 - 1], 3: [MOST + 1], 4: [4, 129],
                 5: [601, 2 ** 64 - 1]}
        for k, values in wrong.items():
            for value in values:
                self.not_known(with_index(reel, sum(rows[:k] + [number(value)] + rows[k + 1:], []) + tail))
        for k, row in enumerate(rows):
            other = sum(rows[:k] + [[row[0] | 128, 0]] + rows[k + 1:], [])
            self.not_known(with_index(reel, other + tail))
        self.not_known(with_index(reel, sum(rows, []) + [0] + tail))
        self.not_known(with_index(reel, sum(rows, [])[:-1] + tail))
        self.not_known(with_index(reel, tail))

    def test_times_added_up(self):
        wide = [stream(1, 1, MOST)]
        reel = reel_of([part(time=2 ** 50), part(time=2 ** 50)], wide)
        self.known(reel.data, reel)
        self.not_known(reel_of([part(time=2 ** 50), part(time=2 ** 50 + 1)], wide).data)
        self.not_known(reel_of([part(time=-2 ** 50), part(time=0)], wide).data)

    def test_sizes_to_600(self):
        for size in (596, 597, 600):
            reel = reel_of([part(data=[1] * size)])
            self.known(reel.data, reel)
        self.not_known(reel_of([part(data=[1] * 601)]).data)

    def test_seventeen_parts(self):
        self.not_known(reel_of([part(time=k) for k in range(17)]).data)

    def test_parts_against_the_order(self):
        reels = (
            ([part(flags=0)], None), ([part(0), part(1, flags=ENDS)], TWO), ([part(0, 5), part(0, 4)], None),
            ([part(1, 5), part(0, 6), part(1, 4)], TWO), ([part(0, 11), part(1, 0)], TWO),
            ([part(flags=KEY + ENDS), part()], None), ([part(flags=KEY + ENDS), part(1), part(0)], TWO),
            ([part(0, 31), part(1, 0)], [stream(1, 1, 3), stream(1, 2, 7)]))
        for parts, streams in reels:
            self.not_known(reel_of(parts, streams).data)

    def test_order_to_its_edges(self):
        for parts in ([part(0, 10), part(1, 0)], [part(0, 5), part(1, 4), part(0, 5)]):
            self.known(reel_of(parts, TWO).data, reel_of(parts, TWO))

    def test_places_that_do_not_come_to_the_indexs(self):
        reel = reel_of([part(0, 2, data=[1, 2]), part(0, 3)])
        others = ([part(0, 2, data=[1]), part(0, 3)], [part(0, 2, data=[1, 2, 3]), part(0, 3)],
                  [part(0, 2, data=[1, 2])], [part(0, 2, data=[1, 2]), part(0, 3), part(0, 4)], [],
                  [part(0, 2, 128, data=[1, 2]), part(0, 3)], [part(0, 2, data=[1, 2]), part(0, 64)])
        for parts in others:
            self.not_known(with_index(reel, index_body(parts, reel.index)))

    def test_bytes_lost_or_put_in_between(self):
        reel = small_reel()
        for data in (reel.data[:reel.places[1]], reel.data[:reel.index] + [0], reel.data[:reel.places[0]]):
            self.not_known(data + box(INDEX, index_body(reel.parts, len(data))))

    def test_other_parts_that_come_to_the_same_place(self):
        reel = reel_of([part(0, 2, data=[1, 2]), part(0, 3)])
        parts = [part(0, 1, 9, KEY, [0]), part(0, 1, 7, ENDS, [0])]
        other = Reel(reel.streams, parts)
        self.assertEqual(other.index, reel.index)
        self.known(with_index(reel, index_body(parts, reel.index)), other)
