"""Point 4, of qc_read."""

import unittest

from mostcell.client import Client
from tests.lines import GREATEST_4, answered, qc_read, qc_start


class ClientReads(unittest.TestCase):
    def test_begins_then_goes_on(self):
        given = answered(qc_start(1, 15, 15), qc_read(1), qc_read(1), qc_read(1))
        self.assertEqual(given, [[0], [0], [-16], [-16]])

    def test_counts_what_it_began(self):
        client = Client()
        client.qc_start(0, 3)
        self.assertEqual(client.begun, 0)
        client.qc_read()
        self.assertEqual(client.begun, 1)
        client.qc_read()
        self.assertEqual(client.begun, 1)

    # No line of 1000 calls comes near that many operations, so the count is set here.
    def begun(self, count):
        client = Client()
        client.qc_start(0, 3)
        client.begun = count
        return client

    def test_the_last_operation(self):
        client = self.begun(GREATEST_4 - 1)
        self.assertEqual(client.qc_read(), 0)
        self.assertEqual(client.begun, GREATEST_4)

    def test_no_operation_is_left(self):
        client = self.begun(GREATEST_4)
        before = dict(vars(client))
        self.assertEqual(client.qc_read(), -28)
        self.assertEqual(vars(client), before)
        self.assertEqual(client.qc_read(), -28)

    def test_what_goes_on_is_told_first(self):
        client = self.begun(GREATEST_4 - 1)
        client.qc_read()
        self.assertEqual(client.qc_read(), -16)
