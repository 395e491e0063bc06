"""Point 2, with what 'Stamps and messages' and 'A keeper' say."""

import unittest

from tests.lines import GREATEST_4, GREATEST_8, answered, ask, message, qk_heard, qk_start, tell

HELD = tell(5, 7, 1234)
SHOWS_HELD = [0] + message(2, 0, 0, 7, 1, 5, 1234)


class KeeperAnswers(unittest.TestCase):
    def test_answer_byte_by_byte(self):
        question = tell(0x01020304, 9, 0x1112131415161718, client=3, operation=0x0A0B0C0D)
        told, held = answered(qk_start(0, 14), qk_heard(0, question), qk_heard(0, ask(6, 0x21222324)))[1:]
        self.assertEqual(told[:5], [0, 4, 3, 14, 0])
        self.assertEqual(told[5:9], [0x0D, 0x0C, 0x0B, 0x0A])
        self.assertEqual(told[9:21], [0] * 12)
        self.assertEqual(told, [0] + message(4, 3, 14, 0, 0x0A0B0C0D, 0, 0))
        self.assertEqual(held[:5], [0, 2, 6, 14, 9])
        self.assertEqual(held[5:9], [0x24, 0x23, 0x22, 0x21])
        self.assertEqual(held[9:13], [4, 3, 2, 1])
        self.assertEqual(held[13:21], [0x18, 0x17, 0x16, 0x15, 0x14, 0x13, 0x12, 0x11])
        self.assertEqual(held, [0] + message(2, 6, 14, 9, 0x21222324, 0x01020304, 0x1112131415161718))

    def test_new_keeper_holds_nothing(self):
        self.assertEqual(answered(qk_start(0, 2), qk_heard(0, ask(15)))[1], [0] + message(2, 15, 2, 0, 1, 0, 0))

    def test_asking_changes_nothing(self):
        given = answered(qk_start(0, 0), qk_heard(0, HELD), qk_heard(0, ask()), qk_heard(0, ask()))
        self.assertEqual(given[2:], [SHOWS_HELD, SHOWS_HELD])

    def test_every_client(self):
        for client in range(16):
            with self.subTest(client=client):
                question = tell(5, client, 8, client)
                given = answered(qk_start(0, 0), qk_heard(0, question), qk_heard(0, ask(client)))
                self.assertEqual(given[1], [0] + message(4, client, 0, 0, 1, 0, 0))
                self.assertEqual(given[2], [0] + message(2, client, 0, client, 1, 5, 8))

    def test_greatest_numbers(self):
        question = tell(GREATEST_4, 15, GREATEST_8, 15, GREATEST_4)
        given = answered(qk_start(0, 14), qk_heard(0, question), qk_heard(0, ask(15, GREATEST_4)))
        self.assertEqual(given[1], [0] + message(4, 15, 14, 0, GREATEST_4, 0, 0))
        self.assertEqual(given[2], [0] + message(2, 15, 14, 15, GREATEST_4, GREATEST_4, GREATEST_8))


class KeeperHolds(unittest.TestCase):
    def held_after(self, number, stamp_client, value):
        """What is shown as held when HELD was told first, and this then."""
        question = tell(number, stamp_client, value, client=2, operation=8)
        given = answered(qk_start(0, 0), qk_heard(0, HELD), qk_heard(0, question), qk_heard(0, ask()))
        self.assertEqual(given[1], [0] + message(4, 0, 0, 0, 1, 0, 0))
        self.assertEqual(given[2], [0] + message(4, 2, 0, 0, 8, 0, 0))
        return given[3]

    def test_greater_stamp_is_held(self):
        for number, stamp_client in ((6, 7), (6, 0), (6, 15), (5, 8), (5, 15), (256, 0), (GREATEST_4, 0)):
            with self.subTest(number=number, stamp_client=stamp_client):
                shown = self.held_after(number, stamp_client, 77)
                self.assertEqual(shown, [0] + message(2, 0, 0, stamp_client, 1, number, 77))

    def test_like_stamp_is_not_held_anew(self):
        self.assertEqual(self.held_after(5, 7, 77), SHOWS_HELD)
        self.assertEqual(self.held_after(5, 7, 9999), SHOWS_HELD)

    def test_lesser_stamp_is_not_held(self):
        for number, stamp_client in ((4, 7), (4, 15), (5, 6), (5, 0), (1, 15)):
            with self.subTest(number=number, stamp_client=stamp_client):
                self.assertEqual(self.held_after(number, stamp_client, 9999), SHOWS_HELD)

    def test_number_0_is_no_greater_than_nothing(self):
        given = answered(qk_start(0, 0), qk_heard(0, tell(0, 0, 0)), qk_heard(0, ask()))
        self.assertEqual(given[1:], [[0] + message(4), [0] + message(2)])
        self.assertEqual(self.held_after(0, 0, 0), SHOWS_HELD)

    def test_greater_stamp_with_a_lesser_value(self):
        self.assertEqual(self.held_after(6, 0, 0), [0] + message(2, 0, 0, 0, 1, 6, 0))


class KeeperRefuses(unittest.TestCase):
    def refuses(self, question):
        given = answered(qk_start(0, 0), qk_heard(0, HELD), qk_heard(0, question), qk_heard(0, ask()))
        self.assertEqual(given[2], [-71])
        self.assertEqual(given[3], SHOWS_HELD)

    def refuses_each(self, questions):
        for question in questions:
            with self.subTest(question=question):
                self.refuses(question)

    def test_an_answer_is_no_question(self):
        self.refuses_each((
            message(2), message(2, 3, 14, 9, 1, 900, 8), message(2, 0, 0, 9, 1, 900, 8),
            message(4), message(4, 3, 14, 0, 9, 0, 0),
        ))

    def test_kinds_there_are_not(self):
        self.refuses_each([message(kind) for kind in (0, 5, 6, 7, 9, 128, 255)])
        self.refuses_each([message(kind, 0, 0, 1, 1, 900, 8) for kind in (0, 5, 7, 11, 255)])

    def test_each_byte_changed(self):
        for right in (ask(), tell(900, 3, 0x0102030405060708, 2, 0x11121314)):
            for place in range(24):
                for change in (1, 2, 128, 255):
                    wrong = list(right)
                    wrong[place] ^= change
                    with self.subTest(right=right, place=place, change=change):
                        self.refuses(wrong)

    def test_other_checks(self):
        right = tell(900, 3, 44)
        self.refuses_each((right[:20] + [0] * 4, right[:20] + right[:19:-1], [0] * 24, [255] * 24))

    def test_client_out_of_range(self):
        self.refuses_each([message(1, client) for client in (16, 17, 31, 255)])
        self.refuses_each([tell(900, 0, 8, client) for client in (16, 17, 31, 255)])

    def test_client_of_the_stamp_out_of_range(self):
        self.refuses_each([tell(900, stamp_client, 8) for stamp_client in (16, 17, 31, 255)])
        self.refuses_each([message(1, stamp_client=16)])

    def test_keeper_in_a_question(self):
        for keeper in (1, 14, 15, 255):
            self.refuses_each((message(1, 0, keeper), message(3, 0, keeper, 1, 1, 900, 8)))

    def test_operation_0(self):
        self.refuses_each((ask(operation=0), tell(900, 1, 8, operation=0)))

    def test_asked_with_a_stamp_or_a_value(self):
        self.refuses_each((
            message(1, number=1), message(1, number=GREATEST_4), message(1, stamp_client=1), message(1, value=1),
            message(1, value=2**63), message(1, 0, 0, 3, 1, 900, 8), message(1, number=900, stamp_client=3),
        ))

    def test_number_0_with_a_client_or_a_value(self):
        self.refuses_each((tell(0, 1, 0), tell(0, 15, 0), tell(0, 0, 1), tell(0, 0, GREATEST_8), tell(0, 3, 44)))


class KeeperTakes(unittest.TestCase):
    def test_operations_of_which_one_byte_is_not_0(self):
        for operation in (1, 2**8, 2**16, 2**24, GREATEST_4):
            with self.subTest(operation=operation):
                given = answered(qk_start(0, 0), qk_heard(0, ask(0, operation)))
                self.assertEqual(given[1], [0] + message(2, operation=operation))

    def test_numbers_of_which_one_byte_is_not_0(self):
        for number in (1, 2**8, 2**16, 2**24):
            with self.subTest(number=number):
                given = answered(qk_start(0, 0), qk_heard(0, tell(number, 3, 2**56)), qk_heard(0, ask()))
                self.assertEqual(given[2], [0] + message(2, 0, 0, 3, 1, number, 2**56))
