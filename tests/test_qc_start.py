"""Point 3."""

import unittest

from mostcell.client import Client
from tests.lines import GREATEST_4, answered, qc_read, qc_start


class ClientStart(unittest.TestCase):
    def test_all_there_are(self):
        for me in range(16):
            for keepers in range(1, 16):
                with self.subTest(me=me, keepers=keepers):
                    self.assertEqual(answered(qc_start(0, me, keepers), qc_read(0)), [[0], [0]])

    def test_me_out_of_range(self):
        for me in (16, 17, 255, 256, 2**31, GREATEST_4):
            with self.subTest(me=me):
                self.assertEqual(answered(qc_start(0, me, 3)), [[-22]])

    def test_keepers_out_of_range(self):
        for keepers in (0, 16, 17, 255, 256, 257, 2**31, GREATEST_4):
            with self.subTest(keepers=keepers):
                self.assertEqual(answered(qc_start(0, 3, keepers)), [[-22]])

    def test_both_out_of_range(self):
        for me, keepers in ((16, 0), (16, 16), (GREATEST_4, 0), (GREATEST_4, GREATEST_4)):
            with self.subTest(me=me, keepers=keepers):
                self.assertEqual(answered(qc_start(0, me, keepers)), [[-22]])

    def test_started_again_began_nothing(self):
        given = answered(qc_start(0, 3, 5), qc_read(0), qc_read(0), qc_start(0, 3, 5), qc_read(0), qc_read(0))
        self.assertEqual(given, [[0], [0], [-16], [0], [0], [-16]])

    def test_started_again_counts_from_nothing(self):
        client = Client()
        client.qc_start(3, 5)
        client.begun = GREATEST_4
        self.assertEqual(client.qc_start(3, 5), 0)
        self.assertEqual(client.qc_read(), 0)
        self.assertEqual(client.begun, 1)

    def test_refused_start_leaves_the_operation(self):
        for me, keepers in ((16, 5), (3, 0), (3, 16), (16, 16)):
            with self.subTest(me=me, keepers=keepers):
                given = answered(qc_start(0, 3, 5), qc_read(0), qc_start(0, me, keepers), qc_read(0))
                self.assertEqual(given, [[0], [0], [-22], [-16]])

    def test_refused_start_leaves_all(self):
        client = Client()
        client.qc_start(3, 5)
        client.qc_read()
        before = dict(vars(client))
        for me, keepers in ((16, 7), (4, 0), (4, 16), (16, 16)):
            with self.subTest(me=me, keepers=keepers):
                self.assertEqual(client.qc_start(me, keepers), -22)
                self.assertEqual(vars(client), before)

    def test_refused_start_leaves_a_client_without_operation(self):
        self.assertEqual(answered(qc_start(0, 3, 5), qc_start(0, 16, 5), qc_read(0)), [[0], [-22], [0]])

    def test_refused_then_started(self):
        self.assertEqual(answered(qc_start(0, 16, 5), qc_start(0, 15, 5), qc_read(0)), [[-22], [0], [0]])

    def test_keeps_who_it_is_and_how_many_keepers_there_are(self):
        client = Client()
        client.qc_start(15, 1)
        self.assertEqual((client.me, client.keepers), (15, 1))
        client.qc_start(0, 15)
        self.assertEqual((client.me, client.keepers), (0, 15))
