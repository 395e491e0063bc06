"""Point 1."""

import unittest

from tests.lines import GREATEST_4, answered, ask, message, qk_heard, qk_start, tell

EMPTY = [0] + message(2, 0, 0, 0, 1, 0, 0)


class KeeperStart(unittest.TestCase):
    def test_every_keeper_there_is(self):
        for me in range(15):
            with self.subTest(me=me):
                started, held = answered(qk_start(0, me), qk_heard(0, ask()))
                self.assertEqual(started, [0])
                self.assertEqual(held, [0] + message(2, 0, me, 0, 1, 0, 0))

    def test_out_of_range(self):
        for me in (15, 16, 255, 256, 270, 2**31, GREATEST_4):
            with self.subTest(me=me):
                self.assertEqual(answered(qk_start(0, me)), [[-22]])

    def test_started_again_holds_nothing(self):
        given = answered(
            qk_start(0, 3), qk_heard(0, tell(7, 2, 99)), qk_start(0, 0), qk_heard(0, ask()),
            qk_heard(0, tell(1, 0, 5)), qk_heard(0, ask()),
        )
        self.assertEqual(given[2:4], [[0], EMPTY])
        self.assertEqual(given[5], [0] + message(2, 0, 0, 0, 1, 1, 5))

    def test_refused_start_leaves_what_is_held(self):
        given = answered(qk_start(0, 3), qk_heard(0, tell(7, 2, 99)), qk_start(0, 15), qk_heard(0, ask()))
        self.assertEqual(given[2:], [[-22], [0] + message(2, 0, 3, 2, 1, 7, 99)])

    def test_refused_then_started(self):
        self.assertEqual(answered(qk_start(0, 15), qk_start(0, 0), qk_heard(0, ask())), [[-22], [0], EMPTY])
