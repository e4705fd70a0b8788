import unittest

from reelcutdesk.records import answers
from tests.desk import Desk, judge


class Examples(unittest.TestCase):
    def test_judge(self):
        self.assertEqual(judge([]), [-8, 8, 0, 0])
        self.assertEqual(judge([76, 119, 1]), [-8, 1, 0, 2])
        self.assertEqual(judge([76, 119, 142, 80]), [-8, 1, 0, 3])

    def test_read(self):
        desk = Desk()
        self.assertEqual(desk.read(0), [0])
        self.assertEqual(desk.feed(0, [76, 119]), [2])
        self.assertEqual(desk.next(), [0])
        self.assertEqual(desk.feed(0, [1, 2]), [1])
        self.assertEqual(desk.next(), [4, 1, 0, 2])
        self.assertEqual(desk.next(), [6])
        self.assertEqual(desk.feed(0), [-4])

    def test_write(self):
        desk = Desk()
        self.assertEqual(desk.write([0, 2, 4, 0, 0]), [-1])
        self.assertEqual(desk.write([0, 1, 2, 0, 0]), [0])

    def test_put_before_a_key(self):
        desk = Desk()
        desk.write([0, 1, 1, 0, 0])
        self.assertEqual(desk.put((0, 0, 0, 0, [])), [-1])
        self.assertEqual(desk.put((0, 0, 0, 1, []))[0], 0)

    def test_as_one_list(self):
        self.assertEqual(answers([0, 0]), [4, -8, 8, 0, 0])
        calls = [1, 0, 2, 0, 2, 76, 119, 3, 2, 0, 2, 1, 2, 3, 3, 2, 0, 0]
        self.assertEqual(answers(calls), [1, 0, 1, 2, 1, 0, 1, 1, 4, 4, 1, 0, 2, 1, 6, 1, -4])
        self.assertEqual(answers([0, 3, 76, 119, 1, 0, 4, 76, 119, 142, 80]), [4, -8, 1, 0, 2, 4, -8, 1, 0, 3])
        calls = [6, 5, 0, 2, 4, 0, 0, 6, 5, 0, 1, 1, 0, 0, 7, 0, 0, 0, 0, 0]
        self.assertEqual(answers(calls), [1, -1, 1, 0, 1, -1])
