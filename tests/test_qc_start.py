"""Point 3."""

import unittest

from tests.lines import (
    GREATEST_4, answered, ask, asked_most, holds, qc_done, qc_heard, qc_read, qc_say, qc_start, qc_write, tell,
    told_most,
)

START = qc_start(0, 3, 3)


class ClientStart(unittest.TestCase):
    def test_all_there_are(self):
        for me in range(16):
            for keepers in range(1, 16):
                with self.subTest(me=me, keepers=keepers):
                    self.assertEqual(answered(qc_start(0, me, keepers), qc_read(0)), [[0], [0]])

    def test_me_out_of_range(self):
        for me in (16, 17, 255, 256, 2**31, GREATEST_4):
            with self.subTest(me=me):
                self.assertEqual(answered(qc_start(0, me, 3)), [[-22]])

    def test_keepers_out_of_range(self):
        for keepers in (0, 16, 17, 255, 256, 257, 2**31, GREATEST_4):
            with self.subTest(keepers=keepers):
                self.assertEqual(answered(qc_start(0, 3, keepers)), [[-22]])

    def test_both_out_of_range(self):
        for me, keepers in ((16, 0), (16, 16), (GREATEST_4, 0), (GREATEST_4, GREATEST_4)):
            with self.subTest(me=me, keepers=keepers):
                self.assertEqual(answered(qc_start(0, me, keepers)), [[-22]])

    def test_started_again_began_nothing(self):
        given = answered(qc_start(0, 3, 5), qc_read(0), qc_read(0), qc_start(0, 3, 5), qc_read(0), qc_read(0))
        self.assertEqual(given, [[0], [0], [-16], [0], [0], [-16]])

    def test_refused_start_leaves_the_operation(self):
        for me, keepers in ((16, 5), (3, 0), (3, 16), (16, 16)):
            with self.subTest(me=me, keepers=keepers):
                given = answered(qc_start(0, 3, 5), qc_read(0), qc_start(0, me, keepers), qc_read(0))
                self.assertEqual(given, [[0], [0], [-22], [-16]])

    def test_refused_start_leaves_a_client_without_operation(self):
        self.assertEqual(answered(qc_start(0, 3, 5), qc_start(0, 16, 5), qc_read(0)), [[0], [-22], [0]])

    def test_refused_then_started(self):
        self.assertEqual(answered(qc_start(0, 16, 5), qc_start(0, 15, 5), qc_read(0)), [[-22], [0], [0]])

    def test_started_again_as_another_client_of_other_keepers(self):
        given = answered(qc_start(0, 15, 1), qc_read(0), qc_say(0), qc_start(0, 0, 4), qc_write(0, 9), qc_say(0),
                         *asked_most(0, 0, 4), qc_say(0))
        self.assertEqual(given[2], [0] + ask(15))
        self.assertEqual(given[5:], [[0] + ask(0), [1], [1], [1], [0] + tell(1, 0, 9)])


class StartedAgain(unittest.TestCase):
    """At each place of a writing, and behind it."""

    PLACES = (
        [], [qc_write(0, 9)], [qc_write(0, 9)] + asked_most(0, 3, 3)[:1], [qc_write(0, 9)] + asked_most(0, 3, 3),
        [qc_write(0, 9)] + asked_most(0, 3, 3) + told_most(0, 3, 3)[:1],
        [qc_write(0, 9)] + asked_most(0, 3, 3) + told_most(0, 3, 3),
        [qc_write(0, 9)] + asked_most(0, 3, 3, 1, (GREATEST_4, 7), 8),
    )

    def test_it_began_nothing(self):
        for ahead in self.PLACES:
            with self.subTest(ahead=ahead):
                given = answered(START, *ahead, START, qc_say(0), qc_done(0), qc_read(0), qc_say(0))
                self.assertEqual(given[-5:], [[0], [-11], [-11], [0], [0] + ask(3)])

    def test_nothing_of_what_was_heard_is_left(self):
        for ahead in self.PLACES:
            with self.subTest(ahead=ahead):
                given = answered(START, *ahead, START, qc_heard(0, holds(0, 5, 7, 6, 3)), qc_read(0),
                                 qc_heard(0, holds(0, 0, 0, 0, 3)), qc_say(0), qc_heard(0, holds(1, 4, 1, 5, 3)),
                                 qc_say(0), *told_most(0, 3, 3), qc_done(0))
                self.assertEqual(given[-9:], [
                    [0], [0], [1], [0] + ask(3), [1], [0] + tell(4, 1, 5, 3), [1], [1], [0, 5],
                ])

    def test_its_operations_have_their_numbers_from_1_on(self):
        begun = [qc_read(0)] + asked_most(0, 3, 3) + told_most(0, 3, 3) + [qc_write(0, 5)]
        given = answered(START, *begun, START, *begun, qc_say(0), START, qc_write(0, 5), qc_say(0))
        self.assertEqual(given[-4:], [[0] + ask(3, 2), [0], [0], [0] + ask(3)])

    def test_refused_it_leaves_all(self):
        for ahead in self.PLACES:
            behind = [qc_say(0), qc_done(0), qc_write(0, 11), qc_say(0)] + told_most(0, 3, 3) + [qc_done(0), qc_say(0)]
            want = answered(START, *ahead, *behind)
            for me, keepers in ((16, 3), (16, 5), (4, 0), (4, 16), (16, 16)):
                with self.subTest(ahead=ahead, me=me, keepers=keepers):
                    given = answered(START, *ahead, qc_start(0, me, keepers), *behind)
                    place = 1 + len(ahead)
                    self.assertEqual(given[place], [-22])
                    self.assertEqual(given[:place] + given[place + 1:], want)
