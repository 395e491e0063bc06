"""Point 7."""

import unittest

from tests.lines import (
    GREATEST_4, GREATEST_8, answered, asked_most, qc_done, qc_read, qc_say, qc_start, qc_write, told_most,
)

START = qc_start(0, 3, 3)
DONE = qc_done(0)
OVER = (GREATEST_4, 15)


def read(operation, stamp, value):
    """The calls by which a reading of this begins, and is done."""
    return [qc_read(0)] + asked_most(0, 3, 3, operation, stamp, value) + told_most(0, 3, 3, operation)


def written(operation, value):
    """The calls by which a writing begins, and is done."""
    return [qc_write(0, value)] + asked_most(0, 3, 3, operation) + told_most(0, 3, 3, operation)


def failed(operation):
    """The calls by which a writing begins that can't be done."""
    return [qc_write(0, 9)] + asked_most(0, 3, 3, operation, OVER, 6)


class ClientIsDone(unittest.TestCase):
    def test_what_was_read(self):
        for stamp, value in (((0, 0), 0), ((1, 0), 0), ((1, 0), 1), ((5, 7), GREATEST_8), (OVER, 2**32)):
            with self.subTest(stamp=stamp, value=value):
                self.assertEqual(answered(START, *read(1, stamp, value), DONE)[-2:], [[1], [0, value]])

    def test_what_was_written(self):
        for value in (0, 1, 2**32, GREATEST_8):
            with self.subTest(value=value):
                self.assertEqual(answered(START, *written(1, value), DONE)[-2:], [[1], [0, value]])

    def test_its_own_value_and_not_what_it_heard(self):
        given = answered(START, qc_write(0, 4), *asked_most(0, 3, 3, 1, (5, 7), 8), *told_most(0, 3, 3), DONE)
        self.assertEqual(given[-1], [0, 4])

    def test_the_same_again(self):
        for calls in (read(1, (5, 7), 8), written(1, 8)):
            with self.subTest(calls=calls):
                self.assertEqual(answered(START, *calls, DONE, DONE, qc_say(0), DONE)[-4:],
                                 [[0, 8], [0, 8], [-11], [0, 8]])

    def test_the_later_of_two(self):
        firsts = (read(1, (5, 7), 8), written(1, 8), failed(1))
        for first in firsts:
            for second, value in ((read(2, (6, 7), 9), 9), (read(2, (0, 0), 0), 0), (written(2, 10), 10)):
                with self.subTest(first=first, second=second):
                    self.assertEqual(answered(START, *first, *second, DONE)[-1], [0, value])


class ClientIsNotDone(unittest.TestCase):
    def test_nothing_was_begun(self):
        self.assertEqual(answered(START, DONE, DONE), [[0], [-11], [-11]])

    def test_while_it_asks(self):
        for begin in (qc_read(0), qc_write(0, 8)):
            with self.subTest(begin=begin):
                given = answered(START, begin, DONE, asked_most(0, 3, 3)[0], DONE)
                self.assertEqual(given[2:], [[-11], [1], [-11]])

    def test_while_it_tells(self):
        for begin in (qc_read(0), qc_write(0, 8)):
            with self.subTest(begin=begin):
                given = answered(START, begin, *asked_most(0, 3, 3), DONE, told_most(0, 3, 3)[0], DONE)
                self.assertEqual(given[4:], [[-11], [1], [-11]])

    def test_while_another_goes_on(self):
        for first in (read(1, (5, 7), 8), written(1, 8), failed(1)):
            for begin in (qc_read(0), qc_write(0, 8)):
                with self.subTest(first=first, begin=begin):
                    given = answered(START, *first, begin, DONE, *asked_most(0, 3, 3, 2), DONE)
                    self.assertEqual((given[-4], given[-1]), ([-11], [-11]))

    def test_after_a_start_that_is_called_again(self):
        for ahead in (read(1, (5, 7), 8), written(1, 8), failed(1), [qc_write(0, 8)]):
            with self.subTest(ahead=ahead):
                self.assertEqual(answered(START, *ahead, START, DONE)[-2:], [[0], [-11]])

    def test_could_not_be_done(self):
        for ahead, operation in (([], 1), (written(1, 8), 2), (failed(1), 2)):
            with self.subTest(ahead=ahead):
                given = answered(START, *ahead, *failed(operation), DONE, DONE, qc_say(0), DONE)
                self.assertEqual(given[-5:], [[1], [-75], [-75], [-11], [-75]])
