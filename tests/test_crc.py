import unittest

from mostcell.crc import crc32c
from tests.lines import check_of


class Crc(unittest.TestCase):
    def test_known_values(self):
        for row, check in (
            (list(b"123456789"), 0xE3069283),
            ([0] * 32, 0x8A9136AA),
            ([255] * 32, 0x62A8AB43),
            (list(range(32)), 0x46DD794E),
            ([], 0),
        ):
            with self.subTest(row=row):
                self.assertEqual(crc32c(row), check)
                self.assertEqual(check_of(row), check)

    def test_row_stays_as_it_was(self):
        row = [1, 2, 3]
        crc32c(row)
        self.assertEqual(row, [1, 2, 3])
