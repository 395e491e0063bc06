"""Point 4."""

import unittest

from mostcell.client import Client
from tests.lines import (
    GREATEST_4, GREATEST_8, answered, ask, asked_most, qc_done, qc_read, qc_say, qc_start, qc_write, tell, told_most,
)

START = qc_start(0, 3, 3)
READ = qc_read(0)
WRITE = qc_write(0, 77)
OVER = (GREATEST_4, 0)


def done(operation):
    """The calls by which an operation that was begun is done."""
    return asked_most(0, 3, 3, operation) + told_most(0, 3, 3, operation)


class ClientBegins(unittest.TestCase):
    def test_every_sort_of_value(self):
        for value in (0, 1, 255, 256, 2**32, 2**63, GREATEST_8):
            with self.subTest(value=value):
                given = answered(START, qc_write(0, value), qc_say(0), *asked_most(0, 3, 3), qc_say(0))
                self.assertEqual(given[1:3], [[0], [0] + ask(3)])
                self.assertEqual(given[-1], [0] + tell(1, 3, value, 3))

    def test_every_client_reads(self):
        for me in range(16):
            with self.subTest(me=me):
                given = answered(qc_start(1, me, 15), qc_read(1), qc_say(1), qc_read(1))
                self.assertEqual(given, [[0], [0], [0] + ask(me), [-16]])

    def test_goes_on_while_it_asks(self):
        for begin in (READ, WRITE):
            with self.subTest(begin=begin):
                given = answered(START, begin, READ, qc_write(0, 5), READ)
                self.assertEqual(given, [[0], [0], [-16], [-16], [-16]])

    def test_goes_on_when_one_too_few_has_answered(self):
        for begin in (READ, WRITE):
            with self.subTest(begin=begin):
                given = answered(START, begin, asked_most(0, 3, 3)[0], READ, qc_write(0, 5))
                self.assertEqual(given[2:], [[1], [-16], [-16]])

    def test_goes_on_while_it_tells(self):
        for begin in (READ, WRITE):
            with self.subTest(begin=begin):
                given = answered(START, begin, *asked_most(0, 3, 3), READ, qc_write(0, 5), told_most(0, 3, 3)[0],
                                 READ, qc_write(0, 5))
                self.assertEqual(given[4:], [[-16], [-16], [1], [-16], [-16]])

    def test_refused_leaves_the_one_that_goes_on(self):
        refused = [READ, qc_write(0, 5), qc_write(0, GREATEST_8)]
        given = answered(START, WRITE, *refused, *asked_most(0, 3, 3), *refused, qc_say(0), *told_most(0, 3, 3),
                         qc_done(0))
        self.assertEqual(given[10], [0] + tell(1, 3, 77, 3))
        self.assertEqual(given[-1], [0, 77])
        given = answered(START, READ, *refused, *asked_most(0, 3, 3, 1, (5, 7), 8), *refused, qc_say(0),
                         *told_most(0, 3, 3), qc_done(0))
        self.assertEqual(given[10], [0] + tell(5, 7, 8, 3))
        self.assertEqual(given[-1], [0, 8])

    def test_again_once_done(self):
        for first in (READ, WRITE):
            for then in (READ, WRITE):
                with self.subTest(first=first, then=then):
                    given = answered(START, first, *done(1), then, qc_say(0))
                    self.assertEqual(given[-2:], [[0], [0] + ask(3, 2)])

    def test_again_once_it_could_not_be_done(self):
        for then in (READ, WRITE):
            with self.subTest(then=then):
                given = answered(START, WRITE, *asked_most(0, 3, 3, 1, OVER), qc_done(0), then, qc_say(0))
                self.assertEqual(given[-3:], [[-75], [0], [0] + ask(3, 2)])


class ClientCounts(unittest.TestCase):
    def test_each_has_the_next_number(self):
        calls = [START]
        for operation in range(1, 60):
            calls += [READ if operation % 3 else WRITE, READ, WRITE, qc_say(0)] + done(operation)
        given = answered(*calls)
        self.assertEqual(given[4::8], [[0] + ask(3, operation) for operation in range(1, 60)])
        self.assertEqual(given[2::8], [[-16]] * 59)

    # No line of 1000 calls comes near that many operations, so the count is set here.
    def begun(self, count):
        client = Client()
        client.qc_start(0, 1)
        client.begun = count
        return client

    def begin_each_way(self, client):
        return [client.qc_write(6), client.qc_read(), client.qc_write(0)]

    def test_the_last_operation(self):
        for begin in (READ, WRITE):
            client = self.begun(GREATEST_4 - 1)
            with self.subTest(begin=begin):
                self.assertEqual(client.qc_read() if begin == READ else client.qc_write(77), 0)
                self.assertEqual(client.qc_say(), [0] + ask(0, GREATEST_4))
                self.assertEqual(self.begin_each_way(client), [-16, -16, -16])
                for call in asked_most(0, 0, 1, GREATEST_4, (5, 7), 77) + told_most(0, 0, 1, GREATEST_4):
                    self.assertEqual(client.qc_heard(call[3:]), 1)
                self.assertEqual(self.begin_each_way(client), [-28, -28, -28])
                self.assertEqual((client.qc_done(), client.qc_say()), ([0, 77], [-11]))

    def test_none_is_left(self):
        client = self.begun(GREATEST_4)
        self.assertEqual(self.begin_each_way(client), [-28, -28, -28])
        self.assertEqual((client.qc_say(), client.qc_done()), ([-11], [-11]))

    def test_started_again_it_counts_from_nothing(self):
        client = self.begun(GREATEST_4)
        self.assertEqual((client.qc_start(0, 1), client.qc_write(6)), (0, 0))
        self.assertEqual(client.qc_say(), [0] + ask(0, 1))
