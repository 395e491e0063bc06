"""When a message is right, also of those that no keeper takes."""

import unittest

from mostcell.message import bytes_of, right_message
from tests.lines import GREATEST_4, GREATEST_8, message

FIELDS = ("kind", "client", "keeper", "operation", "stamp", "value")


class Right(unittest.TestCase):
    def test_what_it_tells(self):
        for row, want in (
            (message(1, 15, operation=GREATEST_4), (1, 15, 0, GREATEST_4, (0, 0), 0)),
            (message(2, 3, 14, 15, 7, GREATEST_4, GREATEST_8), (2, 3, 14, 7, (GREATEST_4, 15), GREATEST_8)),
            (message(2, 3, 14), (2, 3, 14, 1, (0, 0), 0)),
            (message(3, 3, 0, 2, 7, 1, 0), (3, 3, 0, 7, (1, 2), 0)),
            (message(4, 3, 14, operation=7), (4, 3, 14, 7, (0, 0), 0)),
        ):
            with self.subTest(row=row):
                told = right_message(row)
                self.assertEqual(tuple(getattr(told, field) for field in FIELDS), want)
                self.assertEqual(bytes_of(told), row)

    def test_not_right(self):
        for row in (
            message(0), message(5), message(255), message(0, 0, 0, 1, 1, 1, 1), message(5, 0, 0, 1, 1, 1, 1),
            message(2, 16), message(4, 16), message(2, 0, 0, 16, 1, 1, 1), message(4, 0, 0, 16),
            message(2, 0, 15), message(2, 0, 255, 1, 1, 1, 1), message(4, 0, 15), message(4, 0, 255),
            message(2, operation=0), message(4, operation=0), message(1, 0, 1), message(3, 0, 1, 1, 1, 1, 1),
            message(4, stamp_client=1), message(4, number=1), message(4, value=1), message(4, 0, 0, 1, 1, 1, 1),
            message(2, stamp_client=1), message(2, value=1), message(3, stamp_client=1), message(3, value=1),
        ):
            with self.subTest(row=row):
                self.assertIsNone(right_message(row))

    def test_each_byte_changed(self):
        for right in (message(1), message(2, 3, 14, 15, 7, 8, 9), message(3, 3, 0, 15, 7, 8, 9), message(4, 3, 14)):
            for place in range(24):
                wrong = list(right)
                wrong[place] ^= 4
                with self.subTest(right=right, place=place):
                    self.assertIsNone(right_message(wrong))
