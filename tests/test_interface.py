import unittest

from reelcutdesk.records import answers
from tests.desk import split
from tests.reels import part, reel_of, rich_reel, small_reel, stream


def whole_session(data):
    calls = [0, len(data)] + data + [1, 1]
    for k in range(9):
        calls += [2, 0, len(data)] + data if k == 0 else []
        calls += [3, 4, 0]
    return calls


class Interface(unittest.TestCase):
    def test_each_answer_has_its_count_before_it(self):
        reel = reel_of([part(time=-3, length=9, data=[8, 4])], [stream(5, 2, 3, [65], [66, 67])])
        rest = reel.data[reel.places[0]:]
        calls = [0, len(reel.data)] + reel.data + [1, 0, 2, 0, reel.places[0]] + reel.data[:reel.places[0]]
        calls += [3, 4, 0, 4, 1, 2, 1, len(rest)] + rest + [3, 3]
        told = [1, 0, 1, 0, 1, reel.places[0]]
        told += [1, 1, 9, 0, 5, 2, 3, 1, 65, 2, 66, 67, 1, -1, 1, reel.index - reel.places[0]]
        told += [10, 2, 0, 1, -3, 9, reel.places[0], 2, 2, 8, 4, 1, 0]
        self.assertEqual(answers(calls), told)

    def test_every_number_is_an_int(self):
        told = answers(whole_session(rich_reel().data))
        self.assertIs(type(told), list)
        self.assertEqual({type(one) for one in told}, {int})

    def test_what_is_handed_in_stays(self):
        for reel in (small_reel(), rich_reel()):
            calls = whole_session(reel.data)
            before = list(calls)
            answers(calls)
            self.assertEqual(calls, before)

    def test_nothing_is_kept(self):
        calls = whole_session(rich_reel().data)
        first = answers(calls)
        answers([1, 1, 2, 1, 1, 76])
        self.assertEqual(answers(calls), first)
        self.assertEqual(answers([3, 4, 0, 2, 0, 0]), [1, -4, 1, -4, 1, -4])

    def test_what_is_answered_is_the_callers(self):
        calls = whole_session(small_reel().data)
        first = answers(calls)
        again = list(first)
        first.clear()
        self.assertEqual(answers(calls), again)

    def test_two_hundred_calls(self):
        self.assertEqual(answers([3] * 200), [1, -4] * 200)

    def test_the_longest_rows(self):
        data = [0] * 3000
        self.assertEqual(split(answers(([0, 3000] + data) * 5)), [[-2]] * 5)
