"""The promises, held to many reels, right and damaged, that a fixed seed chooses."""

import random
import unittest

from tests.chances import damaged, other_body, some_cut, some_reel
from tests.desk import Desk, judge, play, read_parts, told_of
from tests.reels import INDEX, MARK, PART, Reel, box, crc, part, part_body, reel_of, rich_reel, small_reel


def stands_whole(data, place):
    """The body of the box that stands whole and checked there, or None."""
    if data[place:place + 3] != MARK or len(data) - place < 16:
        return None
    length = int.from_bytes(bytes(data[place + 4:place + 8]), "little")
    end = place + 12 + length
    if length > 600 or end + 4 > len(data) or crc(data[place:place + 8]) != data[place + 8:place + 12]:
        return None
    body = data[place + 12:end]
    return body if crc(body) == data[end:end + 4] else None


class FirstPromise(unittest.TestCase):
    def test_right_reels_are_judged_right(self):
        chance = random.Random(1)
        for _ in range(60):
            reel = some_reel(chance, 16)
            if len(reel.data) <= 1500:
                self.assertEqual(judge(reel.data), [0])
                self.assertEqual(read_parts(reel.data), (reel.streams, reel.parts))

    def test_any_byte_changed_is_told(self):
        chance = random.Random(2)
        for reel in (small_reel(), rich_reel()):
            for at in range(len(reel.data)):
                data = list(reel.data)
                data[at] ^= chance.randint(1, 255)
                self.assertEqual(judge(data)[0], -8)

    def test_right_bytes_are_those_written_of_what_is_told(self):
        chance = random.Random(3)
        seen = {True: 0, False: 0}
        for _ in range(400):
            data = other_body(chance, some_reel(chance, 3))
            right = judge(data) == [0]
            seen[right] += 1
            if right:
                streams, parts = read_parts(data)
                self.assertEqual(Reel(streams, parts).data, data)
        self.assertGreater(seen[True], 5)
        self.assertGreater(seen[False], 100)

    def test_judge_tells_what_reading_tells(self):
        chance = random.Random(4)
        for k in range(150):
            reel = some_reel(chance)
            data = damaged(chance, reel) if k % 2 else other_body(chance, reel)
            told = told_of(data, 0)
            verdict = [0] if told[-2] == [3] else [-8] + told[-2][1:]
            self.assertEqual(judge(data), verdict)


class SecondPromise(unittest.TestCase):
    def same(self, data, cuts):
        for mend in (0, 1):
            told = play([data], mend)
            for pieces in cuts:
                self.assertEqual(play(pieces, mend), told)

    def test_one_by_one(self):
        small = small_reel().data
        inner = box(PART, part_body(part(0, 1)))
        nested = reel_of([part(data=inner)])
        within = list(nested.data)
        within[nested.places[0] + 12] ^= 1
        wrong = [list(small) for _ in range(4)]
        for data, at in zip(wrong, (30, 52, 70, 90)):
            data[at] ^= 4
        for data in [small, small + [1, 2], small[:80], within, nested.data] + wrong:
            self.same(data, [[[byte] for byte in data]])

    def test_other_pieces(self):
        chance = random.Random(5)
        for _ in range(40):
            reel = some_reel(chance)
            for data in (reel.data, damaged(chance, reel), other_body(chance, reel)):
                if len(data) <= 600:
                    self.same(data, [some_cut(chance, data, 40), some_cut(chance, data, 200)])

    def test_empty_pieces(self):
        data = rich_reel().data
        self.same(data, [[[], data[:3], [], [], data[3:100], [], data[100:], []]])

    def test_last_said_with_every_piece(self):
        reel = small_reel()
        other = list(reel.data)
        other[30] ^= 1
        for data in (reel.data, reel.data[:70], other, reel.data + [0]):
            for mend in (0, 1):
                self.assertEqual(self.told_with_last(data, mend), told_of(data, mend))

    def told_with_last(self, data, mend):
        desk = Desk()
        desk.read(mend)
        told = []
        while told[-1:] != [[6]]:
            count = desk.feed(1, data)[0]
            data = data[max(count, 0):]
            told.append(desk.next())
        return told


class ThirdPromise(unittest.TestCase):
    def before_the_fault(self, told, size):
        """What is told of the first bytes alone, up to the first fault."""
        rows = []
        for thing, taken in told:
            if taken > size or thing[0] in (4, 6):
                break
            rows.append(thing)
        return rows

    def test_what_stands_behind_changes_nothing_before(self):
        chance = random.Random(6)
        for k in range(60):
            reel = some_reel(chance)
            data = reel.data if k % 3 else damaged(chance, reel)
            size = chance.randrange(len(data) + 1)
            told = self.before_the_fault(play([data], k % 2), size)
            for more in ([], [chance.randrange(256) for _ in range(30)], MARK + [INDEX]):
                again = play([data[:size] + more], k % 2)
                self.assertEqual(self.before_the_fault(again, size), told)


class FourthPromise(unittest.TestCase):
    def check(self, data):
        told = told_of(data, 1)
        if told[0] != [1]:
            return
        parts = [thing for thing in told if thing[0] == 2]
        taken = {}
        for thing in parts:
            body = stands_whole(data, thing[5])
            self.assertEqual(data[thing[5] + 3], PART)
            self.assertEqual(part_body(part(thing[1], thing[3], thing[4], thing[2] & 127, thing[8:])), body)
            taken[thing[5]] = thing[5] + 16 + len(body)
        faults = [thing for thing in told if thing[0] == 4]
        if faults:
            self.nothing_is_lost(data, faults, taken)

    def nothing_is_lost(self, data, faults, taken):
        for place in range(faults[0][3] + 1, len(data)):
            body = stands_whole(data, place)
            if body is None or data[place + 3] != PART or [4, 9, 0, place] in faults:
                continue
            within = [begin for begin, end in taken.items() if begin < place < end]
            spoilt = [fault for fault in faults if place + 12 <= fault[3] < place + 16 + len(body)]
            self.assertTrue(place in taken or within or spoilt, place)

    def test_damaged(self):
        chance = random.Random(7)
        for k in range(150):
            reel = some_reel(chance)
            self.check(damaged(chance, reel))
            self.check(other_body(chance, reel))

    def test_right_reels(self):
        chance = random.Random(8)
        for _ in range(40):
            reel = some_reel(chance)
            self.assertEqual(play([reel.data], 1), play([reel.data], 0))

    def test_one_byte_changed_loses_one_part(self):
        reel = rich_reel()
        starts = reel.places + [reel.index]
        for k, place in enumerate(reel.places):
            for at in range(place, starts[k + 1]):
                data = list(reel.data)
                data[at] ^= 32
                told = [thing[5] for thing in told_of(data, 1) if thing[0] == 2]
                self.assertEqual(told, reel.places[:k] + reel.places[k + 1:])


class SixthPromise(unittest.TestCase):
    def test_refusals_between_change_nothing(self):
        chance = random.Random(9)
        zeros = [0] * 1501
        refused = ([1, 2], [2, 2, 0], [4, 9], [2, 0, 1501] + zeros, [0, 1501] + zeros)
        for k in range(15):
            data = damaged(chance, some_reel(chance, 3))
            plain, disturbed = Desk(), Desk()
            plain.read(k % 2)
            disturbed.read(k % 2)
            for step in range(12):
                self.assertIn(disturbed.call(refused[(k + step) % 5]), ([-1], [-2], [-4]))
                count = plain.feed(0, data)
                self.assertEqual(disturbed.feed(0, data), count)
                self.assertEqual(disturbed.next(), plain.next())
                data = data[max(count[0], 0):]
            for which in range(5):
                self.assertEqual(disturbed.stream(which), plain.stream(which))
