"""The promises over all ten calls on one record, in any order."""

import random
import unittest

from tests.chances import damaged, far_apart, other_body, some_parts, some_reel, some_streams
from tests.desk import Desk, judge, knowing, play, read_all, read_parts, told_of, writing
from tests.reels import (
    ENDS, KEY, Reel, box, head_body, index_body, listed, part, part_body, reel_of, rich_reel, small_reel, stream)

HEAD, PART, INDEX = 72, 80, 73
HUGE = 9007199254740991
MOST_TIME = 2 ** 50


def written(streams, parts):
    """All that write, put and end tell, put together."""
    desk = Desk()
    desk.write(listed(streams))
    rows = [desk.put(one) for one in parts] + [desk.end()]
    for row in rows:
        if row[0] != 0 or row[1] != len(row) - 2:
            raise AssertionError(row)
    return sum([row[2:] for row in rows], [])


class WhatIsWritten(unittest.TestCase):
    def check(self, reel):
        data = written(reel.streams, reel.parts)
        self.assertEqual(data, reel.data)
        self.assertEqual(judge(data), [0])
        for mend in (0, 1):
            self.assertEqual(told_of(data, mend), reel.told())
            desk = read_all(data, mend)
            for k in range(len(reel.streams)):
                self.assertEqual(desk.stream(k), reel.told_stream(k))
            self.assertEqual(desk.stream(len(reel.streams)), [-1])

    def test_streams(self):
        full = stream(255, 2 ** 32 - 1, 2 ** 32 - 2, range(16), range(40))
        for streams in ([stream()], [full], [stream(), full, stream(), stream()], [full] * 4):
            self.check(reel_of([], streams))
            self.check(reel_of([part(len(streams) - 1, 5, 6, KEY, [7])], streams))

    def test_parts(self):
        for count in (0, 1, 2, 15, 16):
            self.check(reel_of([part(time=k, length=k, data=[k] * k) for k in range(count)]))

    def test_full_bodies(self):
        self.check(reel_of([part(data=[6] * 596)]))
        self.check(reel_of([part(data=[6] * 596), part(data=box(PART, [0] * 580))]))
        self.check(reel_of([part(0, -2 ** 50 + 1, 2 ** 32 - 1, KEY, [6] * 585)]))

    def test_wide_numbers(self):
        streams = [stream(0, 1, 2 ** 32 - 1), stream(0, 1, 2 ** 32 - 2)]
        parts = [part(k % 2, time, 2 ** 32 - 1, KEY, [255]) for k, time in enumerate(
            (1 - MOST_TIME, 1 - MOST_TIME, -1, 0, MOST_TIME - 1, MOST_TIME, MOST_TIME, MOST_TIME))]
        self.check(reel_of(parts, streams))

    def test_many(self):
        chance = random.Random(21)
        for _ in range(60):
            reel = some_reel(chance, 16)
            if len(reel.data) <= 1500:
                self.check(reel)

    def test_known_ones(self):
        for reel in (small_reel(), rich_reel()):
            self.check(reel)

    def test_right_bytes_are_written_ones(self):
        chance = random.Random(22)
        seen = 0
        for _ in range(500):
            data = other_body(chance, some_reel(chance, 3))
            if judge(data) == [0]:
                seen += 1
                self.assertEqual(written(*read_parts(data)), data)
        self.assertGreater(seen, 5)

    def test_what_is_refused_would_be_a_fault(self):
        chance = random.Random(23)
        seen = {True: 0, False: 0}
        for _ in range(300):
            streams = some_streams(chance)
            reel = Reel(streams, [some_part(chance, streams) for _ in range(chance.randint(1, 3))])
            right = judge(reel.data) == [0]
            seen[right] += 1
            desk = writing(reel)
            told = [desk.put(one)[0] for one in reel.parts]
            self.assertEqual(told == [0] * len(reel.parts), right)
        self.assertGreater(min(seen.values()), 30)


def some_part(chance, streams):
    """A part that may be wrong in one thing or another."""
    which = chance.randrange(len(streams) + (chance.random() < 0.1))
    time = chance.choice((0, 1, 2, 3, 40, 500, -1, MOST_TIME, MOST_TIME + 1, -MOST_TIME, 1 - MOST_TIME))
    if chance.random() < 0.6:
        time = chance.choice((0, 1, 2))
    length = chance.choice((0, 1, 2 ** 32 - 1, 2 ** 32)) if chance.random() < 0.2 else 5
    flags = chance.choice((KEY, KEY, KEY, KEY, 0, ENDS, KEY + ENDS, 4)) if chance.random() < 0.5 else KEY
    size = chance.choice((0, 3, 3, 585, 596, 597)) if chance.random() < 0.2 else 2
    return part(which, time, length, flags, [chance.randrange(256) for _ in range(size)])


class WhatSeekKnows(unittest.TestCase):
    def test_right_reels(self):
        chance = random.Random(31)
        for _ in range(60):
            reel = some_reel(chance, 16)
            if len(reel.data) > 1500:
                continue
            sought, read, put = knowing(reel.data), read_all(reel.data, 1), writing(reel, len(reel.parts))
            put.end()
            for k in range(len(reel.streams) + 1):
                self.assertEqual(sought.stream(k), read.stream(k))
                self.assertEqual(put.stream(k), read.stream(k))
                for time in range(-3, 9):
                    self.assertEqual(sought.find(k, time), read.find(k, time))
                    self.assertEqual(put.find(k, time), read.find(k, time))

    def test_it_is_the_reel_whose_head_and_index_are_there(self):
        chance = random.Random(32)
        seen = {True: 0, False: 0}
        for _ in range(300):
            reel = some_reel(chance, 4)
            data = damaged(chance, reel) if chance.random() < 0.5 else other_body(chance, reel)
            known = Desk().seek(data) == [0]
            seen[known] += 1
            if judge(data) == [0]:
                self.assertTrue(known)
            if known and len(data) == len(reel.data) and data[reel.index:] == reel.data[reel.index:]:
                desk = knowing(data)
                for k in range(len(reel.streams)):
                    self.assertEqual(desk.find(k, 1), knowing(reel.data).find(k, 1))
        self.assertGreater(min(seen.values()), 30)


class Model:
    """What a record holds, kept by means of the tests' own."""

    def __init__(self):
        self.forget()

    def forget(self):
        self.mode, self.streams, self.parts, self.rows, self.coming = "empty", [], [], [], []

    def find(self, which, time):
        if not self.streams:
            return [-4]
        if which >= len(self.streams):
            return [-1]
        own = [k for k, row in enumerate(self.rows) if row[0] == which]
        if not own:
            return [-6]
        keys = [k for k in own if self.rows[k][1] % 2 and self.rows[k][2] <= time]
        k = keys[-1] if keys else own[0]
        return [k] + self.rows[k]

    def stream(self, k):
        if not self.streams:
            return [-4]
        return Reel(self.streams, []).told_stream(k) if k < len(self.streams) else [-1]

    def in_order(self, parts):
        for k, (which, time, _, flags, _) in enumerate(parts):
            own = [one for one in parts[:k] if one[0] == which]
            if not own and not flags & KEY or [one for one in own if one[3] & ENDS or one[1] > time]:
                return False
        return not far_apart(self.streams, parts)

    def put(self, one):
        if self.mode != "writes":
            return [-4]
        which, time, length, flags, _ = one
        if which >= len(self.streams) or not -MOST_TIME < time <= MOST_TIME or length >= 2 ** 32 or flags > 3:
            return [-1]
        if len(part_body(one)) > 600 or not self.in_order(self.parts + [one]):
            return [-1]
        if len(self.parts) == 16:
            return [-7]
        self.parts.append(one)
        reel = Reel(self.streams, self.parts)
        self.rows.append(reel.row(len(self.rows)))
        return self.box_told(box(PART, part_body(one)), len(self.parts) == 1)

    def box_told(self, data, first):
        data = (box(HEAD, head_body(self.streams)) if first else []) + data
        return [0, len(data)] + data

    def end(self):
        if self.mode != "writes":
            return [-4]
        self.mode = "known"
        reel = Reel(self.streams, self.parts)
        return self.box_told(box(INDEX, index_body(self.parts, reel.index)), not self.parts)


class Walk:
    """Calls that chance chooses, each answer held to the model's."""

    def __init__(self, test, seed):
        self.test, self.chance = test, random.Random(seed)
        self.desk, self.model = Desk(), Model()
        self.reel = some_reel(self.chance, 6)
        self.stay = self.chance.choice((3, 8, 60))
        self.seen = {}

    def step(self):
        """One call; how likely a record is left as it is differs from walk to walk."""
        names = ["judge", "read", "feed", "next", "stream", "find", "find", "write", "put", "end", "seek"]
        names += {"reads": ["feed", "next", "find"], "writes": ["put"]}.get(self.model.mode, []) * self.stay
        name = self.chance.choice(names)
        answer = getattr(self, name)()
        self.seen[(name, answer[0])] = True

    def same(self, answer, wanted):
        self.test.assertEqual(answer, wanted)
        return answer

    def bytes(self):
        return self.reel.data if self.chance.random() < 0.4 else damaged(self.chance, self.reel)

    def judge(self):
        if self.chance.random() < 0.7:
            return self.same(self.desk.judge([0] * 1501), [-2])
        data = self.bytes()
        answer = self.desk.judge(data)
        self.test.assertEqual(answer == [0], data == self.reel.data)
        self.model.forget()
        return answer

    def read(self):
        mend = self.chance.choice((0, 1, 1, 2, HUGE))
        if mend > 1:
            return self.same(self.desk.read(mend), [-1])
        self.model.forget()
        self.model.mode, self.model.coming = "reads", self.bytes()
        return self.same(self.desk.read(mend), [0])

    def feed(self):
        if self.model.mode != "reads":
            return self.same(self.desk.feed(self.chance.choice((0, 2))), [-4])
        answer = self.desk.feed(0, self.model.coming)
        if answer[0] > 0:
            self.model.coming = self.model.coming[answer[0]:]
        return answer

    def next(self):
        if self.model.mode != "reads":
            return self.same(self.desk.next(), [-4])
        answer = self.desk.next()
        if answer == [1]:
            self.model.streams = self.reel.streams
        elif answer[0] == 2:
            self.model.rows.append(answer[1:7])
        return answer

    def stream(self):
        k = self.chance.choice((0, 1, 2, 3, 4, HUGE))
        return self.same(self.desk.stream(k), self.model.stream(k))

    def find(self):
        which, time = self.chance.choice((0, 0, 1, 2, 4)), self.chance.choice((-HUGE, -1, 0, 1, 2, 3, HUGE))
        return self.same(self.desk.find(which, time), self.model.find(which, time))

    def write(self):
        if self.chance.random() < 0.6:
            wrong = ([], [0, 2, 4, 0, 0], [0, 1, 1, 0], [0, 1, 1, 0, 0, 0], [0, 1, 1, HUGE, 0])
            return self.same(self.desk.write(self.chance.choice(wrong)), [-1])
        self.model.forget()
        self.model.mode, self.model.streams = "writes", self.reel.streams
        return self.same(self.desk.write(listed(self.reel.streams)), [0])

    def put(self):
        one = some_part(self.chance, self.reel.streams)
        if len(self.model.parts) > 2:
            one = part(self.model.parts[-1][0], self.model.parts[-1][1] + self.chance.choice((0, 0, 0, -1)))
        return self.same(self.desk.put(one), self.model.put(one))

    def end(self):
        return self.same(self.desk.end(), self.model.end())

    def seek(self):
        wrong = self.chance.random() < 0.5
        self.model.forget()
        if wrong:
            data = list(self.reel.data)
            data[-self.chance.randint(1, 16)] ^= 1
            return self.same(self.desk.seek(data), [-8])
        self.model.mode, self.model.streams = "known", self.reel.streams
        self.model.rows = [self.reel.row(k) for k in range(len(self.reel.parts))]
        return self.same(self.desk.seek(self.reel.data), [0])


def numbers_of(call):
    """A call as it stands in the list."""
    return call[0] + [number for row in call[1:] for number in [len(row)] + list(row)]


def answers_of(calls):
    desk = Desk()
    return [desk.call(numbers_of(call)) for call in calls]


class AnyOrder(unittest.TestCase):
    def test_held_to_a_model(self):
        seen = {}
        for seed in range(40):
            walk = Walk(self, seed)
            for _ in range(60):
                if len(walk.desk.calls) < 14000:
                    walk.step()
            seen.update(walk.seen)
        for wanted in (("judge", 0), ("judge", -8), ("judge", -2), ("read", -1), ("feed", -4), ("next", 1), ("next", 2),
                       ("next", 4), ("next", 5), ("next", -4), ("stream", 0), ("stream", -1), ("stream", -4),
                       ("find", 0), ("find", 1), ("find", -1), ("find", -4), ("find", -6), ("write", 0),
                       ("write", -1), ("put", 0), ("put", -1), ("put", -4), ("put", -7), ("end", 0), ("end", -4),
                       ("seek", 0), ("seek", -8)):
            self.assertIn(wanted, seen)


def states():
    """Records of every kind, each as the calls that lead to it."""
    reel = small_reel()
    head = reel.data[:reel.places[0]]
    put = [[7, 0, 1, 0, 0], [5, 6]]
    write = [[6], listed(reel.streams)]
    hurt = head + [0]
    return {
        "empty": [],
        "reads": [[[1, 0]]],
        "has a head to tell": [[[1, 0]], [[2, 0], head]],
        "told its head": [[[1, 0]], [[2, 0], head], [[3]]],
        "has a part to tell": [[[1, 1]], [[2, 0], head], [[3]], [[2, 0], reel.data[len(head):]]],
        "told a part": [[[1, 1]], [[2, 0], head], [[3]], [[2, 0], reel.data[len(head):]], [[3]]],
        "looks for a place": [[[1, 1]], [[2, 0], head], [[3]], [[2, 0], hurt[len(head):]], [[3]]],
        "knows of no more": [[[1, 1]], [[2, 0], head], [[3]], [[2, 1], []]],
        "told the end": [[[1, 0]], [[2, 0], [1]], [[3]], [[3]]],
        "writes": [write],
        "has put a part": [write, put],
        "has put sixteen": [write] + [put] * 16,
        "wrote": [write, put, [[8]]],
        "is known": [[[9], reel.data]],
    }


def refusals():
    """Calls of which many are refused, wherever they are made; what they change if they aren't does not matter."""
    zeros = [0] * 1501
    return [
        [[0], zeros], [[1, 2]], [[1, HUGE]], [[2, 2], []], [[2, 1], zeros], [[2, 0], [0]], [[3]], [[4, 1]], [[4, HUGE]],
        [[5, 1, 0]], [[5, 0, 0]], [[6], []], [[6], [0, 2, 4, 0, 0]], [[6], [0, 1, 1, 0, 0, 9]], [[6], [0] * 300],
        [[7, 1, 1, 9, 0], []], [[7, 0, 4, 9, 0], []], [[7, 0, 1, -1, 0], []], [[7, 0, 1, HUGE, 0], []],
        [[7, 0, 1, 9, HUGE], []], [[7, 0, 1, 9, 0], [0] * 3000], [[7, 0, 1, 9, 0], []], [[8]]]


class RefusalsChangeNothing(unittest.TestCase):
    def probes(self):
        reel = small_reel()
        return [
            [[[4, 0]], [[5, 0, 9]], [[3]], [[4, 0]], [[5, 0, 9]], [[3]]],
            [[[2, 0], reel.data[reel.places[1]:]], [[3]], [[2, 1], []], [[3]], [[3]], [[3]]],
            [[[7, 0, 1, 9, 0], [3]], [[5, 0, 9]], [[8]], [[5, 0, 9]]]]

    def test_each_in_each_state(self):
        refused = 0
        for name, calls in states().items():
            plain = [answers_of(calls + probe)[len(calls):] for probe in self.probes()]
            for call in refusals():
                answer = answers_of(calls + [call])[-1]
                if answer[0] < 0:
                    refused += 1
                    self.assertEqual(len(answer), 1)
                    told = [answers_of(calls + [call] + probe)[len(calls) + 1:] for probe in self.probes()]
                    self.assertEqual(told, plain, (name, call))
        self.assertGreater(refused, 200)

    def test_left_out_of_any_sequence(self):
        chance = random.Random(61)
        for _ in range(60):
            reel = some_reel(chance, 3)
            calls = [self.some_call(chance, reel) for _ in range(25)]
            told = answers_of(calls)
            kept = [k for k, answer in enumerate(told) if answer[0] >= 0 or answer[0] == -8]
            self.assertEqual(answers_of([calls[k] for k in kept]), [told[k] for k in kept])

    def some_call(self, chance, reel):
        one = some_part(chance, reel.streams)
        put = [[7, one[0], one[3], one[1], one[2]], one[4]]
        at = chance.choice([0] + reel.places + [reel.index])
        calls = [[[1, chance.randrange(3)]], [[6], listed(reel.streams)], [[9], reel.data], [[9], reel.data[at:]]]
        calls += refusals() + [put] * 6 + [[[2, 0], reel.data[at:]]] * 6 + [[[3]]] * 4
        calls += [[[5, chance.randrange(4), chance.randrange(3)]]] * 3
        return chance.choice(calls)


class HowItIsCut(unittest.TestCase):
    def test_written_and_told_in_the_same_line(self):
        reel = rich_reel()
        desk = writing(reel)
        pieces = [desk.put(one)[2:] for one in reel.parts] + [desk.end()[2:]]
        desk.read(1)
        told = []
        for piece in pieces:
            while piece:
                piece = piece[desk.feed(0, piece)[0]:]
                told.append(desk.next())
        told = [thing for thing in told if thing != [0]]
        self.assertEqual(told + [[6]], reel.told())
        self.assertEqual([thing for thing, _ in play(pieces, 0)], reel.told())


class Chances(unittest.TestCase):
    def test_parts_of_the_tests_own_are_in_order(self):
        chance = random.Random(71)
        model = Model()
        for _ in range(50):
            model.streams = some_streams(chance)
            parts = some_parts(chance, model.streams, 8)
            self.assertEqual(model.in_order(parts), not far_apart(model.streams, parts))
