import unittest

from tests.desk import Desk, play, told_of
from tests.reels import (
    ENDS, HEAD, INDEX, KEY, MARK, PART, box, changed, head_body, index_body, index_tail, number, opening, part,
    part_body, reel_of, rich_reel, small_reel, stream, with_index)

NOTHING = [[5, -1], [6]]
TWO = [stream(), stream()]


def four_parts():
    return reel_of([part(time=k, data=[k] * 3) for k in range(4)])


def told_box(which, flags, time, place, data=()):
    return [2, which, flags, time, 0, place, len(data), len(data)] + list(data)


def with_loose_index(reel):
    """The reel with an index that is right by its form alone."""
    return with_index(reel, index_body([], 0))


class Mending(unittest.TestCase):
    def damaged(self, reel, at, change=1):
        return changed(reel.data, at, change)

    def without(self, reel, k, fault):
        """What is told of a reel whose part k is lost by that fault."""
        told = reel.told()
        after = reel.places[k + 1] if k + 1 < len(reel.places) else reel.index
        return told[:k + 1] + [fault, [5, after]] + told[k + 2:]


class RightReels(Mending):
    def test_told_as_if_read_strictly(self):
        for reel in (small_reel(), rich_reel(), four_parts(), reel_of([])):
            self.assertEqual(play([reel.data], 1), play([reel.data], 0))

    def test_index_is_held_to_its_parts(self):
        reel = four_parts()
        data = with_index(reel, index_body(reel.parts, reel.index + 1))
        place = data.index(46, reel.index) - 11
        self.assertEqual(told_of(data, 1), reel.told()[:5] + [[4, 7, 0, place]] + NOTHING)
        data = with_index(reel, index_body(reel.parts[:3], reel.index))
        self.assertEqual(told_of(data, 1), reel.told()[:5] + [[4, 7, 0, reel.index + 12]] + NOTHING)


class BeforeTheHead(Mending):
    def test_it_is_strict(self):
        reel = four_parts()
        for at, fault in ((0, [1, 0, 0]), (3, [1, 0, 3]), (4, [3, 0, 8]), (12, [6, 0, reel.places[0] - 4])):
            self.assertEqual(told_of(self.damaged(reel, at), 1), [[4] + fault, [6]])
        data = box(HEAD, head_body([stream()] * 2)[:-1]) + reel.data
        self.assertEqual(told_of(data, 1), [[4, 4, 0, len(data) - len(reel.data) - 4], [6]])
        self.assertEqual(told_of([], 1), [[4, 8, 0, 0], [6]])
        self.assertEqual(told_of(reel.data[:20], 1), [[4, 8, 0, 20], [6]])


class Damage(Mending):
    def test_in_a_body(self):
        reel = four_parts()
        ends = reel.places[1:] + [reel.index]
        for k in range(4):
            data = self.damaged(reel, reel.places[k] + 17)
            self.assertEqual(told_of(data, 1), self.without(reel, k, [4, 6, 0, ends[k] - 4]))

    def test_in_the_eight_bytes(self):
        reel = four_parts()
        at = reel.places[1]
        for k in (4, 8, 11):
            self.assertEqual(told_of(self.damaged(reel, at + k), 1), self.without(reel, 1, [4, 3, 0, at + 8]))
        self.assertEqual(told_of(self.damaged(reel, at + 5, 128), 1), self.without(reel, 1, [4, 2, 0, at + 4]))
        self.assertEqual(told_of(self.damaged(reel, at + 3), 1), self.without(reel, 1, [4, 1, 0, at + 3]))

    def test_in_the_mark(self):
        reel = four_parts()
        at = reel.places[2]
        for k in range(3):
            self.assertEqual(told_of(self.damaged(reel, at + k), 1), self.without(reel, 2, [4, 1, 0, at + k]))

    def test_in_the_index(self):
        reel = four_parts()
        at = reel.index
        faults = ((0, [1, 0, at]), (3, [1, 0, at + 3]), (7, [2, 0, at + 4]), (9, [3, 0, at + 8]),
                  (20, [6, 0, len(reel.data) - 4]))
        for k, fault in faults:
            self.assertEqual(told_of(self.damaged(reel, at + k), 1), reel.told()[:5] + [[4] + fault] + NOTHING)

    def test_twice(self):
        reel = four_parts()
        data = self.damaged(reel, reel.places[1])
        data[reel.places[2] + 13] ^= 1
        told = reel.told()
        self.assertEqual(told_of(data, 1), told[:2] + [
            [4, 1, 0, reel.places[1]], [5, reel.places[2]], [4, 6, 0, reel.places[3] - 4], [5, reel.places[3]],
            told[4], [3], [6]])

    def test_in_the_form(self):
        reel = four_parts()
        at = reel.places[1]
        data = reel.data[:at] + box(PART, [0, 0, 0, 4]) + reel.data[at:]
        first = reel.places[0]
        self.assertEqual(told_of(data, 1), reel.told()[:2] + [[4, 4, 0, at + 15], [5, at + 20]] + [
            told_box(0, KEY, k, reel.places[k] + 20, [k] * 3) for k in range(1, 4)] + [[3], [6]])
        data = reel.data[:first] + box(PART, [7, 0, 0, 4]) + reel.data[first:]
        self.assertEqual(told_of(data, 1)[1:3], [[4, 4, 0, first + 12], [5, first + 20]])

    def test_bytes_put_between(self):
        reel = four_parts()
        at = reel.places[1]
        data = reel.data[:at] + [1, 2, 3] + reel.data[at:]
        self.assertEqual(told_of(data, 1)[2:5], [
            [4, 1, 0, at], [5, at + 3], told_box(0, KEY, 1, at + 3, [1] * 3)])

    def test_a_part_that_is_not_there_is_the_orders_first(self):
        reel = reel_of([part(0, 5), part(0, 6, flags=0), part(0, 7, flags=0)])
        data = self.damaged(reel, reel.places[0])
        self.assertEqual(told_of(data, 1)[1:], [
            [4, 1, 0, reel.places[0]], [5, reel.places[1]], reel.told_part(1, 128), reel.told_part(2), [3], [6]])

    def test_places_that_do_not_begin_a_box(self):
        reel = small_reel()
        at = reel.places[1]
        wrong = opening(PART, 3)
        wrong[9] ^= 1
        for more in (opening(HEAD, 3), opening(PART, 601), wrong, opening(81, 3), MARK + MARK, opening(PART, 3)[1:]):
            data = reel.data[:at] + [0] + more + reel.data[at:]
            told = told_of(data, 1)
            self.assertEqual(told[2:4], [[4, 1, 0, at], [5, at + 1 + len(more)]])
            self.assertEqual(told[4:], [told_box(0, ENDS, 3, at + 1 + len(more))[:4] + [
                2, at + 1 + len(more), 0, 0], [3], [6]])

    def test_a_place_that_only_seems_to_begin_a_box(self):
        reel = small_reel()
        at = reel.places[1]
        data = reel.data[:at] + [0] + opening(INDEX, 20) + reel.data[at:]
        self.assertEqual(told_of(data, 1)[2:6], [
            [4, 1, 0, at], [5, at + 1], [4, 6, 0, at + 33], [5, at + 13]])


class Moments(Mending):
    def test_found_when_its_twelve_bytes_are_there(self):
        reel = four_parts()
        at = reel.places[2]
        told = play([self.damaged(reel, reel.places[1])], 1)
        self.assertEqual(told[2:5], [
            ([4, 1, 0, reel.places[1]], reel.places[1] + 1), ([5, at], at + 12), (reel.told_part(2), reel.places[3])])

    def test_found_nothing_only_when_no_more_bytes_come(self):
        desk = Desk()
        desk.read(1)
        reel = reel_of([])
        desk.feed(0, reel.data[:reel.index])
        desk.next()
        self.assertEqual(desk.feed(0, [0, 0]), [1])
        self.assertEqual(desk.next(), [4, 1, 0, reel.index])
        self.assertEqual(desk.next(), [0])
        self.assertEqual(desk.feed(0, [76] * 100), [100])
        self.assertEqual(desk.next(), [0])
        self.assertEqual(desk.feed(1, [76, 119]), [2])
        self.assertEqual(desk.next(), [5, -1])
        self.assertEqual(desk.next(), [6])
        self.assertEqual(desk.next(), [6])

    def test_found_in_bytes_taken_before(self):
        inner = box(PART, part_body(part(time=2)))
        reel = reel_of([part(), part(time=1, data=inner)])
        at = reel.places[1]
        told = play([self.damaged(reel, reel.index - 1)], 1)
        self.assertEqual(told[2:5], [
            ([4, 6, 0, reel.index - 4], reel.index), ([5, at + 16], reel.index),
            (told_box(0, KEY, 2, at + 16), reel.index)])


class BoxesInBoxes(Mending):
    def setUp(self):
        self.inner = box(PART, part_body(part(time=2, data=[9])))
        self.reel = reel_of([part(), part(time=1, data=[5] + self.inner), part(time=3)])
        self.at = self.reel.places[1]

    def test_not_told_where_the_outer_one_is_taken(self):
        self.assertEqual(told_of(self.reel.data, 1), self.reel.told())
        data = self.damaged(self.reel, self.reel.places[0])
        self.assertEqual(told_of(data, 1), self.without(self.reel, 0, [4, 1, 0, self.reel.places[0]]))

    def test_told_where_the_outer_one_is_at_fault(self):
        place = self.at + 17
        for k, fault in ((0, [1, 0, self.at]), (12, [6, 0, self.reel.places[2] - 4]), (6, [2, 0, self.at + 4])):
            data = self.damaged(self.reel, self.at + k)
            told = self.reel.told()
            self.assertEqual(told_of(data, 1), told[:2] + [
                [4] + fault, [5, place], told_box(0, KEY, 2, place, [9]), [4, 1, 0, place + 21],
                [5, self.reel.places[2]], told[3], [3], [6]])

    def test_told_where_the_outer_one_has_a_fault_four(self):
        head = reel_of([]).data[:reel_of([]).index]
        data = head + box(PART, [1] + self.inner)
        at = len(head)
        self.assertEqual(told_of(data, 1), [
            [1], [4, 4, 0, at + 12], [5, at + 13], told_box(0, KEY, 2, at + 13, [9]),
            [4, 1, 0, at + 34], [5, -1], [6]])

    def test_told_where_the_outer_one_is_cut(self):
        size = self.at + 17 + len(self.inner)
        self.assertEqual(told_of(self.reel.data[:size], 1), self.reel.told()[:2] + [
            [4, 8, 0, size], [5, self.at + 17], told_box(0, KEY, 2, self.at + 17, [9]), [4, 8, 0, size]] + NOTHING)


class Cut(Mending):
    def test_anywhere(self):
        reel = four_parts()
        ends = reel.places + [reel.index, len(reel.data)]
        for size in range(ends[0], len(reel.data)):
            count = len([end for end in ends if end <= size])
            self.assertEqual(told_of(reel.data[:size], 1), reel.told()[:count] + [[4, 8, 0, size]] + NOTHING)

    def test_a_found_box_that_is_cut(self):
        reel = four_parts()
        size = reel.places[3] + 13
        data = self.damaged(reel, reel.places[2])[:size]
        self.assertEqual(told_of(data, 1), reel.told()[:3] + [
            [4, 1, 0, reel.places[2]], [5, reel.places[3]], [4, 8, 0, size]] + NOTHING)


class BehindTheIndex(Mending):
    def test_bytes(self):
        reel = small_reel()
        size = len(reel.data)
        for more in ([0], [76] * 40, reel.data[:20]):
            self.assertEqual(told_of(reel.data + more, 1), reel.told()[:-1] + [[4, 9, 0, size]] + NOTHING)

    def test_a_part_behind_a_byte(self):
        reel = small_reel()
        size = len(reel.data)
        data = reel.data + [0] + box(PART, part_body(part(time=4)))
        self.assertEqual(told_of(data, 1), reel.told()[:-1] + [
            [4, 9, 0, size], [5, size + 1], told_box(0, KEY + 128, 4, size + 1), [4, 8, 0, len(data)]] + NOTHING)

    def test_a_box_at_once_is_passed_over(self):
        reel = small_reel()
        size = len(reel.data)
        data = reel.data + box(PART, part_body(part(time=4)))
        self.assertEqual(told_of(data, 1), reel.told()[:-1] + [[4, 9, 0, size]] + NOTHING)

    def test_a_second_reel(self):
        reel = reel_of([part(0, 1), part(0, 2)])
        size = len(reel.data)
        self.assertEqual(told_of(reel.data + reel.data, 1), reel.told()[:-1] + [
            [4, 9, 0, size], [5, size + reel.places[0]], told_box(0, KEY + 128, 1, size + reel.places[0]),
            told_box(0, KEY, 2, size + reel.places[1]), [3], [6]])


class AgainstTheOrder(Mending):
    def told_flags(self, parts, streams=None):
        """What is told of a reel whose index has not their flags: its parts' flags, then the rest."""
        reel = reel_of(parts, streams)
        told = told_of(reel.data, 1)
        self.assertEqual(told[0], [1])
        flags = [thing[2] - one[3] for thing, one in zip(told[1:], parts)]
        rows = [reel.told_part(k, extra) for k, extra in enumerate(flags)]
        self.assertEqual(told, [[1]] + rows + [[3], [6]])
        return flags

    def test_each_sort(self):
        self.assertEqual(self.told_flags([part(flags=0)]), [128])
        self.assertEqual(self.told_flags([part(0, 5), part(0, 4), part(0, 4)]), [0, 128, 0])
        self.assertEqual(self.told_flags([part(0, 11), part(1, 0)], TWO), [0, 128])
        self.assertEqual(self.told_flags([part(0, 10), part(1, 0)], TWO), [0, 0])
        self.assertEqual(self.told_flags([part(flags=KEY + ENDS), part(), part(flags=ENDS)]), [0, 128, 128])

    def test_such_a_part_counts_for_the_order(self):
        self.assertEqual(self.told_flags([part(flags=0), part(flags=0)]), [128, 0])
        self.assertEqual(self.told_flags([part(0, 9), part(0, 5), part(0, 7), part(0, 6)]), [0, 128, 0, 128])
        self.assertEqual(self.told_flags([part(0, flags=ENDS), part(0)]), [128, 128])
        parts = [part(0, 30), part(1, 0), part(0, 30), part(1, 20)]
        self.assertEqual(self.told_flags(parts, TWO), [0, 128, 0, 0])

    def test_index_behind_it_counts_by_its_form(self):
        reel = reel_of([part(flags=0)])
        data = with_index(reel, index_body([part(0, 9, 9, 2, [1])] * 3, 99999))
        self.assertEqual(told_of(data, 1), [[1], reel.told_part(0, 128), [3], [6]])

    def test_sixteen_parts_stay_the_most(self):
        reel = reel_of([part(flags=0)] * 17)
        told = told_of(reel.data, 1)
        self.assertEqual(told[17:19], [[4, 1, 0, reel.places[16] + 3], [5, reel.index]])


class IndexBehindDamage(Mending):
    def index_told(self, body, streams=None):
        """What is told behind damage of an index of that body: its fault as (kind, place in the body), or None."""
        head = reel_of([], streams)
        data = head.data[:head.index] + [0] + box(INDEX, body)
        place = head.index + 1
        told = told_of(data, 1)
        self.assertEqual(told[:3], [[1], [4, 1, 0, head.index], [5, place]])
        if told[3:] == [[3], [6]]:
            return None
        self.assertEqual([told[3][0], told[3][2]], [4, 0])
        self.assertEqual(told[4:], NOTHING)
        return told[3][1], told[3][3] - place - 12

    def fault(self, numbers, at, streams=None):
        body = sum([number(value) for value in numbers], []) + index_tail(0)
        self.assertEqual(self.index_told(body, streams), (4, at))

    def right(self, numbers, streams=None):
        body = sum([number(value) for value in numbers], []) + index_tail(2 ** 64 - 1)
        self.assertIsNone(self.index_told(body, streams))

    def test_right(self):
        self.right([0])
        self.right([1, 0, 0, 2 ** 32 - 1, 3, 600])
        self.right([16] + [0, 0, 0, 0, 0] * 16)
        self.right([2, 0, 2 ** 51, 0, 0, 0, 0, 2 ** 52 - 3, 0, 0, 0])
        self.right([2, 0, 2 ** 51, 0, 0, 0, 1, 2 ** 51, 0, 2, 0], TWO)

    def test_count(self):
        self.fault([17] + [0, 0, 0, 0, 0] * 17, 0)
        self.fault([2 ** 64 - 1], 0)

    def test_streams(self):
        self.fault([1, 1, 0, 0, 0, 0], 1)
        self.fault([1, 2, 0, 0, 0, 0], 1, TWO)

    def test_times(self):
        self.fault([1, 0, 2 ** 51 + 2, 0, 0, 0], 2)
        self.fault([1, 0, 2 ** 51 - 1, 0, 0, 0], 2)
        self.fault([2, 0, 2 ** 51, 0, 0, 0, 0, 2, 0, 0, 0], 14)
        self.fault([2, 0, 2 ** 51 - 3, 0, 0, 0, 0, 1, 0, 0, 0], 14)

    def test_lengths_flags_sizes(self):
        self.fault([1, 0, 0, 2 ** 32, 0, 0], 3)
        self.fault([1, 0, 0, 0, 4, 0], 4)
        self.fault([1, 0, 0, 0, 129, 0], 4)
        self.fault([1, 0, 0, 0, 0, 601], 5)

    def test_forms(self):
        self.assertEqual(self.index_told([128, 0] + index_tail(0)), (4, 0))
        self.assertEqual(self.index_told([1, 0, 0, 128, 0, 0, 0] + index_tail(0)), (4, 3))
        body = [1, 0, 0, 0, 0, 0] + index_tail(0)
        for size in range(len(body)):
            self.assertEqual(self.index_told(body[:size]), (4, size))
        self.assertEqual(self.index_told(body + [46]), (4, len(body)))
        for k in range(1, 5):
            other = list(body)
            other[-k] ^= 1
            self.assertEqual(self.index_told(other), (4, len(body) - k))


class MoreThanSixteen(Mending):
    def test_the_seventeenth_is_a_fault(self):
        reel = reel_of([part(time=k) for k in range(17)])
        self.assertEqual(told_of(with_loose_index(reel), 1), reel.told()[:17] + [
            [4, 1, 0, reel.places[16] + 3], [5, reel.index], [3], [6]])

    def test_those_behind_it_are_faults_too(self):
        reel = reel_of([part(time=k) for k in range(19)])
        faults = []
        for place, then in zip(reel.places[16:], reel.places[17:] + [reel.index]):
            faults += [[4, 1, 0, place + 3], [5, then]]
        self.assertEqual(told_of(with_loose_index(reel), 1), reel.told()[:17] + faults + [[3], [6]])

    def test_a_lost_part_makes_room_for_one(self):
        reel = reel_of([part(time=k) for k in range(17)])
        data = changed(with_loose_index(reel), reel.places[5])
        self.assertEqual(told_of(data, 1), self.without(reel, 5, [4, 1, 0, reel.places[5]]))
        reel = reel_of([part(time=k) for k in range(18)])
        data = changed(with_loose_index(reel), reel.places[5])
        told = self.without(reel, 5, [4, 1, 0, reel.places[5]])
        self.assertEqual(told_of(data, 1), told[:19] + [[4, 1, 0, reel.places[17] + 3], [5, reel.index], [3], [6]])

    def test_found_behind_sixteen_it_is_told_at_once(self):
        reel = reel_of([part(time=k) for k in range(16)])
        more = box(PART, part_body(part(time=16)))
        data = reel.data[:reel.index] + [0] + more + box(INDEX, index_body([], 0))
        place = reel.index + 1
        told = play([data], 1)
        self.assertEqual(told[17:], [
            ([4, 1, 0, reel.index], place), ([5, place], place + 12), ([4, 1, 0, place + 3], place + 12),
            ([5, place + 20], place + 32), ([3], len(data)), ([6], len(data))])

    def test_found_behind_the_index(self):
        reel = reel_of([part(time=k) for k in range(16)])
        size = len(reel.data)
        data = reel.data + [0] + box(PART, part_body(part(time=16)))
        self.assertEqual(told_of(data, 1), reel.told()[:-1] + [
            [4, 9, 0, size], [5, size + 1], [4, 1, 0, size + 4]] + NOTHING)

    def test_a_part_within_the_seventeenth(self):
        inner = box(PART, part_body(part(time=17)))
        reel = reel_of([part(time=k) for k in range(16)] + [part(time=16, data=inner)])
        place = reel.places[16] + 16
        self.assertEqual(told_of(with_loose_index(reel), 1), reel.told()[:17] + [
            [4, 1, 0, reel.places[16] + 3], [5, place], [4, 1, 0, place + 3], [5, reel.index], [3], [6]])
