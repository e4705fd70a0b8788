import unittest

from reelcutdesk.bodies import MOST_RATE, MOST_TIME, common_divisor
from reelcutdesk.crc import crc_of
from reelcutdesk.forms import Body, Fault, NUMBER_BOUND, read_number, read_signed, signed_form
from tests.reels import crc, number, signed


def read(data, reader=read_number):
    body = Body(data, 0, len(data))
    value = reader(body)
    return value, body.at


class Checks(unittest.TestCase):
    def test_known_check(self):
        self.assertEqual(crc_of(list(b"123456789")), 0xE3069283)
        self.assertEqual(crc_of([]), 0)
        self.assertEqual(crc_of([0] * 32), 0x8A9136AA)
        self.assertEqual(crc(b"123456789"), [0x83, 0x92, 0x06, 0xE3])


class Numbers(unittest.TestCase):
    def test_bounds(self):
        self.assertEqual(NUMBER_BOUND, 2 ** 64)
        self.assertEqual(MOST_TIME, 2 ** 50)
        self.assertEqual(MOST_RATE, 2 ** 32 - 1)

    def test_forms(self):
        for value in (0, 1, 127, 128, 300, 16383, 16384, 2 ** 32, 2 ** 63 - 1, 2 ** 63, 2 ** 64 - 1):
            data = number(value)
            self.assertEqual(read(data + [1]), (value, len(data)))
        self.assertEqual(len(number(2 ** 64 - 1)), 10)

    def fault(self, data):
        with self.assertRaises(Fault) as caught:
            read(data)
        return caught.exception.kind, caught.exception.place

    def test_other_forms(self):
        for data in ([128, 0], [255, 128, 0], [128] * 9 + [0], number(2 ** 64), [255] * 9 + [2],
                     [255] * 10, [128] * 10, [255] * 12, [129] * 10 + [1]):
            self.assertEqual(self.fault(data), (4, 0))

    def test_ended_too_early(self):
        for size in range(10):
            self.assertEqual(self.fault([255] * size), (4, size))

    def test_signed(self):
        pairs = ((0, 0), (-1, 1), (1, 2), (-2, 3), (-2 ** 63, 2 ** 64 - 1), (2 ** 63 - 1, 2 ** 64 - 2))
        for value, form in pairs:
            self.assertEqual(signed_form(value), form)
            self.assertEqual(read(signed(value), read_signed)[0], value)

    def test_common_divisor(self):
        for a, b, divisor in ((1, 1, 1), (2, 4, 2), (4, 2, 2), (9, 4, 1), (12, 18, 6), (5, 5, 5)):
            self.assertEqual(common_divisor(a, b), divisor)
