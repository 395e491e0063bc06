"""Point 5, with what 'Stamps and messages' and 'A client' say of questions."""

import unittest

from tests.lines import (
    GREATEST_4, GREATEST_8, answered, ask, asked_most, holds, message, qc_heard, qc_read, qc_say, qc_start, qc_write,
    tell, told_most,
)

START = qc_start(0, 3, 3)
SAY = qc_say(0)


class ClientSays(unittest.TestCase):
    def test_questions_byte_by_byte(self):
        value = 0x1112131415161718
        given = answered(START, qc_write(0, value), SAY, *asked_most(0, 3, 3, 1, (0x01020304, 9), 6), SAY)
        self.assertEqual(given[2][:21], [0, 1, 3, 0, 0, 1, 0, 0, 0] + [0] * 12)
        self.assertEqual(given[2], [0] + message(1, 3, 0, 0, 1, 0, 0))
        told = given[-1]
        self.assertEqual(told[:9], [0, 3, 3, 0, 3, 1, 0, 0, 0])
        self.assertEqual(told[9:13], [5, 3, 2, 1])
        self.assertEqual(told[13:21], [0x18, 0x17, 0x16, 0x15, 0x14, 0x13, 0x12, 0x11])
        self.assertEqual(told, [0] + message(3, 3, 0, 3, 1, 0x01020305, value))

    def test_while_it_asks(self):
        for begin in (qc_read(0), qc_write(0, 0), qc_write(0, GREATEST_8)):
            with self.subTest(begin=begin):
                self.assertEqual(answered(START, begin, SAY)[2], [0] + ask(3))

    def test_what_was_heard_is_not_asked(self):
        for begin in (qc_read(0), qc_write(0, 12)):
            with self.subTest(begin=begin):
                given = answered(START, begin, qc_heard(0, holds(2, 900, 7, 44, 3)), SAY)
                self.assertEqual(given[2:], [[1], [0] + ask(3)])

    def test_a_reading_tells_what_it_read(self):
        for stamp, value in (((0, 0), 0), ((1, 0), 0), ((5, 7), 8), ((GREATEST_4, 15), GREATEST_8)):
            with self.subTest(stamp=stamp, value=value):
                given = answered(START, qc_read(0), *asked_most(0, 3, 3, 1, stamp, value), SAY)
                self.assertEqual(given[-1], [0] + tell(*stamp, value, 3))

    def test_a_writing_tells_its_own(self):
        for number, value in ((0, 0), (0, 5), (1, 1), (255, 256), (GREATEST_4 - 1, GREATEST_8)):
            with self.subTest(number=number, value=value):
                stamp = (number, 7 if number else 0)
                given = answered(START, qc_write(0, value), *asked_most(0, 3, 3, 1, stamp), SAY)
                self.assertEqual(given[-1], [0] + tell(number + 1, 3, value, 3))

    def test_said_twice(self):
        for begin in (qc_read(0), qc_write(0, 12)):
            with self.subTest(begin=begin):
                given = answered(START, begin, SAY, SAY, *asked_most(0, 3, 3, 1, (5, 7), 8), SAY, SAY, SAY)
                self.assertEqual(given[2], given[3])
                self.assertEqual(given[6:], [given[6]] * 3)
                self.assertEqual((given[2][1], given[6][1]), (1, 3))

    def test_as_one_keeper_more_has_heard_it(self):
        given = answered(START, qc_write(0, 12), *asked_most(0, 3, 3), SAY, told_most(0, 3, 3)[0], SAY)
        self.assertEqual(given[4:], [[0] + tell(1, 3, 12, 3), [1], [0] + tell(1, 3, 12, 3)])

    def test_every_client(self):
        for me in range(16):
            with self.subTest(me=me):
                given = answered(qc_start(1, me, 1), qc_write(1, 12), qc_say(1), *asked_most(1, me, 1), qc_say(1),
                                 *told_most(1, me, 1), qc_read(1), qc_say(1))
                self.assertEqual(given[2], [0] + ask(me))
                self.assertEqual(given[4], [0] + tell(1, me, 12, me))
                self.assertEqual(given[-1], [0] + ask(me, 2))


class ClientHasNothingToSay(unittest.TestCase):
    def test_nothing_was_begun(self):
        self.assertEqual(answered(START, SAY, SAY), [[0], [-11], [-11]])

    def test_when_the_last_is_done(self):
        for begin in (qc_read(0), qc_write(0, 12)):
            with self.subTest(begin=begin):
                given = answered(START, begin, *asked_most(0, 3, 3), *told_most(0, 3, 3), SAY, SAY)
                self.assertEqual(given[-3:], [[1], [-11], [-11]])

    def test_when_the_last_could_not_be_done(self):
        given = answered(START, qc_write(0, 12), *asked_most(0, 3, 3, 1, (GREATEST_4, 0)), SAY, SAY)
        self.assertEqual(given[-3:], [[1], [-11], [-11]])

    def test_after_a_start_that_is_called_again(self):
        for ahead in ([], asked_most(0, 3, 3), asked_most(0, 3, 3) + told_most(0, 3, 3)):
            with self.subTest(ahead=ahead):
                given = answered(START, qc_write(0, 12), *ahead, START, SAY, qc_read(0), SAY)
                self.assertEqual(given[-4:], [[0], [-11], [0], [0] + ask(3)])
