import unittest

from reelcutdesk.records import answers
from tests.desk import split
from tests.reels import changed, listed, part, reel_of, rich_reel, small_reel, stream


def whole_session(reel):
    """All ten calls: the reel judged, read, sought, written; and some refusals of each."""
    data = reel.data
    calls = [0, len(data)] + data + [1, 1]
    for k in range(9):
        calls += [2, 0, len(data)] + data if k == 0 else []
        calls += [3, 4, 0, 5, 0, 3]
    calls += [9, len(data)] + data + [4, 0, 5, 0, -7, 8]
    numbers = listed(reel.streams)
    calls += [6, len(numbers)] + numbers + [6, 0]
    for which, time, length, flags, row in reel.parts:
        calls += [7, which, flags, time, length, len(row)] + row + [5, which, time]
    return calls + [7, 9, 0, 0, 0, 0, 8, 4, 0, 5, 0, 9, 9, 3, 1, 2, 3, 4, 0]


class Interface(unittest.TestCase):
    def test_each_answer_has_its_count_before_it(self):
        reel = reel_of([part(time=-3, length=9, data=[8, 4])], [stream(5, 2, 3, [65], [66, 67])])
        rest = reel.data[reel.places[0]:]
        calls = [0, len(reel.data)] + reel.data + [1, 0, 2, 0, reel.places[0]] + reel.data[:reel.places[0]]
        calls += [3, 4, 0, 4, 1, 2, 1, len(rest)] + rest + [3, 3]
        told = [1, 0, 1, 0, 1, reel.places[0]]
        told += [1, 1, 9, 0, 5, 2, 3, 1, 65, 2, 66, 67, 1, -1, 1, reel.index - reel.places[0]]
        told += [10, 2, 0, 1, -3, 9, reel.places[0], 2, 2, 8, 4, 1, 0]
        self.assertEqual(answers(calls), told)

    def test_rows_of_the_calls_that_write_and_find(self):
        reel = reel_of([part(time=-3, length=9, data=[8, 4]), part()], [stream(5, 2, 3, [65], [66, 67])])
        first, then, index = reel.data[:reel.places[1]], reel.data[reel.places[1]:reel.index], reel.data[reel.index:]
        calls = [6, 8, 5, 2, 3, 1, 65, 2, 66, 67, 5, 0, 0, 7, 0, 1, -3, 9, 2, 8, 4, 7, 0, 1, 0, 0, 0, 5, 0, -3, 8]
        calls += [9, len(reel.data)] + reel.data + [5, 0, 0, 4, 0, 9, len(reel.data)] + changed(reel.data, -1)
        calls += [4, 0]
        told = [1, 0, 1, -6, 2 + len(first), 0, len(first)] + first + [2 + len(then), 0, len(then)] + then
        told += [7, 0, 0, 1, -3, 9, reel.places[0], 2, 2 + len(index), 0, len(index)] + index
        told += [1, 0, 7, 1, 0, 1, 0, 0, reel.places[1], 0, 9, 0, 5, 2, 3, 1, 65, 2, 66, 67, 1, -8, 1, -4]
        self.assertEqual(answers(calls), told)

    def test_end_without_parts_tells_one_row(self):
        data = reel_of([], [stream(0)]).data
        self.assertEqual(answers([6, 5, 0, 1, 1, 0, 0, 8]), [1, 0, 2 + len(data), 0, len(data)] + data)

    def test_every_number_is_an_int(self):
        told = answers(whole_session(rich_reel()))
        self.assertIs(type(told), list)
        self.assertEqual({type(one) for one in told}, {int})

    def test_what_is_handed_in_stays(self):
        for reel in (small_reel(), rich_reel()):
            calls = whole_session(reel)
            before = list(calls)
            answers(calls)
            self.assertEqual(calls, before)

    def test_nothing_is_kept(self):
        calls = whole_session(rich_reel())
        first = answers(calls)
        answers([1, 1, 2, 1, 1, 76])
        self.assertEqual(answers(calls), first)
        self.assertEqual(answers([3, 4, 0, 2, 0, 0, 5, 0, 0, 8]), [1, -4] * 5)
        answers([6, 5, 0, 1, 1, 0, 0])
        self.assertEqual(answers([8, 4, 0]), [1, -4] * 2)

    def test_what_is_answered_is_the_callers(self):
        calls = whole_session(small_reel())
        first = answers(calls)
        again = list(first)
        first.clear()
        self.assertEqual(answers(calls), again)

    def test_two_hundred_calls(self):
        self.assertEqual(answers([3] * 200), [1, -4] * 200)

    def test_the_longest_rows(self):
        data = [0] * 3000
        self.assertEqual(split(answers(([0, 3000] + data) * 5)), [[-2]] * 5)
        self.assertEqual(split(answers(([9, 3000] + data) * 5)), [[-8]] * 5)
        self.assertEqual(split(answers([6, 300] + data[:300])), [[-1]])
        calls = [6, 5, 0, 1, 1, 0, 0] + ([7, 0, 1, 0, 0, 3000] + data) * 5
        self.assertEqual(split(answers(calls)), [[0]] + [[-1]] * 5)

    def test_two_hundred_calls_of_one_line(self):
        calls = [6, 5, 0, 1, 1, 0, 0] + [7, 0, 1, 0, 0, 0] * 199
        told = split(answers(calls))
        self.assertEqual([row[0] for row in told], [0] * 17 + [-7] * 183)
