"""Point 6, with what 'Stamps and messages' and 'A client' say."""

import itertools
import unittest

from tests.lines import (
    GREATEST_4, GREATEST_8, answered, ask, asked_most, holds, is_held, message, qc_done, qc_heard, qc_read, qc_say,
    qc_start, qc_write, tell, told_most,
)

START = qc_start(0, 3, 5)
SAY = qc_say(0)
DONE = qc_done(0)
READ = qc_read(0)
WRITE = qc_write(0, 77)


def hear(*answers):
    return [qc_heard(0, answer) for answer in answers]


# How a client gets to each place where it may hear something, with what it says there.
ASKED = asked_most(0, 3, 5, 1, (5, 7), 8)
PLACES = (
    ("nothing was begun", [START], [-11]),
    ("a reading asks", [START, READ], [0] + ask(3)),
    ("a writing asks", [START, WRITE], [0] + ask(3)),
    ("a writing asks, two have answered", [START, WRITE] + ASKED[:2], [0] + ask(3)),
    ("a reading tells", [START, READ] + ASKED, [0] + tell(5, 7, 8, 3)),
    ("a writing tells", [START, WRITE] + ASKED, [0] + tell(6, 3, 77, 3)),
    ("a writing tells, two have answered", [START, WRITE] + ASKED + told_most(0, 3, 5)[:2], [0] + tell(6, 3, 77, 3)),
    ("a reading is done", [START, READ] + ASKED + told_most(0, 3, 5), [-11]),
    ("a writing couldn't be done", [START, WRITE] + asked_most(0, 3, 5, 1, (GREATEST_4, 7), 8), [-11]),
)


class ClientRefuses(unittest.TestCase):
    def refuses(self, wrong):
        for name, ahead, said in PLACES:
            with self.subTest(name=name, wrong=wrong):
                self.assertEqual(answered(*ahead, *hear(wrong), SAY)[-2:], [[-71], said])

    def refuses_each(self, messages):
        for wrong in messages:
            self.refuses(wrong)

    def test_each_byte_changed(self):
        right = holds(4, 900, 9, 0x0102030405060708, 3)
        for place in range(24):
            for change in (1, 128, 255):
                wrong = list(right)
                wrong[place] ^= change
                self.refuses(wrong)

    def test_other_checks(self):
        right = is_held(4, 3)
        self.refuses_each((right[:20] + [0] * 4, right[:20] + right[:19:-1], [0] * 24, [255] * 24))

    def test_kinds_there_are_not(self):
        self.refuses_each([message(kind, 3, 4) for kind in (0, 5, 6, 255)])

    def test_clients_there_are_not(self):
        self.refuses_each([holds(4, 900, 9, 8, client) for client in (16, 19, 255)])
        self.refuses_each([is_held(4, client) for client in (16, 19, 255)])

    def test_clients_of_a_stamp_there_are_not(self):
        self.refuses_each([holds(4, 900, stamp_client, 8, 3) for stamp_client in (16, 19, 255)])

    def test_keepers_there_are_not(self):
        self.refuses_each([holds(keeper, 900, 9, 8, 3) for keeper in (15, 16, 255)])
        self.refuses_each([is_held(keeper, 3) for keeper in (15, 16, 255)])

    def test_operation_0(self):
        self.refuses_each((holds(4, 900, 9, 8, 3, 0), is_held(4, 3, 0)))

    def test_it_is_held_with_a_stamp_or_a_value(self):
        self.refuses_each((
            message(4, 3, 4, 1), message(4, 3, 4, number=1), message(4, 3, 4, value=1), message(4, 3, 4, value=2**63),
            message(4, 3, 4, 9, 1, 900, 8),
        ))

    def test_number_0_with_a_client_or_a_value(self):
        self.refuses_each((holds(4, 0, 1, 0, 3), holds(4, 0, 0, 1, 3), holds(4, 0, 9, 8, 3)))

    def test_wrong_questions(self):
        self.refuses_each((message(1, 3, 1), message(3, 3, 1, 9, 1, 900, 8), message(1, 3, value=1), tell(0, 1, 0, 3)))


class ClientPassesOver(unittest.TestCase):
    def passes_over(self, answer, places=PLACES):
        for name, ahead, said in places:
            with self.subTest(name=name, answer=answer):
                self.assertEqual(answered(*ahead, *hear(answer), SAY)[-2:], [[0], said])

    def test_of_another_client(self):
        for client in (0, 2, 4, 15):
            self.passes_over(holds(4, 900, 9, 8, client))
            self.passes_over(is_held(4, client))

    def test_of_another_operation(self):
        for operation in (2, 257, 2**16 + 1, 2**24 + 1, GREATEST_4):
            self.passes_over(holds(4, 900, 9, 8, 3, operation))
            self.passes_over(is_held(4, 3, operation))

    def test_of_one_operation_before_and_one_after(self):
        ahead = [START, WRITE] + ASKED + told_most(0, 3, 5) + [READ]
        for operation in (1, 3):
            given = answered(*ahead, *hear(holds(4, 900, 9, 8, 3, operation)), SAY, *asked_most(0, 3, 5, 2),
                             *hear(is_held(4, 3, operation)), SAY)
            with self.subTest(operation=operation):
                self.assertEqual((given[-7], given[-6]), ([0], [0] + ask(3, 2)))
                self.assertEqual(given[-2:], [[0], [0] + tell(0, 0, 0, 3, 2)])

    def test_questions(self):
        for question in (ask(3), tell(900, 9, 8, 3), tell(0, 0, 0, 3)):
            self.passes_over(question)

    def test_it_is_held_while_it_asks(self):
        self.passes_over(is_held(4, 3), PLACES[1:4])

    def test_this_is_held_while_it_tells(self):
        self.passes_over(holds(4, 900, 9, 8, 3), PLACES[4:7])

    def test_while_no_operation_goes_on(self):
        for answer in (holds(4, 900, 9, 8, 3), is_held(4, 3)):
            self.passes_over(answer, PLACES[:1] + PLACES[7:])

    def test_keepers_that_are_not_below(self):
        for keeper in (5, 6, 14):
            self.passes_over(holds(keeper, 900, 9, 8, 3))
            self.passes_over(is_held(keeper, 3))

    def test_each_count_of_keepers(self):
        for keepers in range(1, 15):
            with self.subTest(keepers=keepers):
                given = answered(qc_start(0, 3, keepers), READ, *hear(
                    holds(keepers, 900, 9, 8, 3), holds(14, 900, 9, 8, 3), holds(keepers - 1, 5, 7, 6, 3)))
                self.assertEqual(given[2:], [[0], [0], [1]])

    def test_a_keeper_that_has_answered(self):
        asked = hear(holds(0, 5, 7, 6, 3), holds(4, 4, 7, 5, 3))
        again = hear(holds(0, 5, 7, 6, 3), holds(4, 4, 7, 5, 3), holds(0, 900, 9, 8, 3), holds(4, 901, 9, 8, 3))
        told = hear(is_held(0, 3), is_held(4, 3))
        for begin, says, value in ((READ, tell(5, 7, 6, 3), 6), (WRITE, tell(6, 3, 77, 3), 77)):
            with self.subTest(begin=begin):
                given = answered(START, begin, *asked, *again, SAY, *hear(holds(2, client=3)), SAY, *told, *told, SAY,
                                 *hear(is_held(3, 3)), DONE)
                self.assertEqual(given[2:9], [[1]] * 2 + [[0]] * 4 + [[0] + ask(3)])
                self.assertEqual(given[9:], [[1], [0] + says, [1], [1], [0], [0], [0] + says, [1], [0, value]])


class ClientGoesOn(unittest.TestCase):
    MOST = {1: 1, 2: 2, 3: 2, 4: 3, 5: 3, 6: 4, 7: 4, 8: 5, 9: 5, 10: 6, 11: 6, 12: 7, 13: 7, 14: 8, 15: 8}

    def goes_on_upon(self, keepers, begin, order):
        """How many answers it takes until it tells, and how many until it is done."""
        calls = [qc_start(0, 3, keepers), begin]
        for keeper in order:
            calls += hear(holds(keeper, client=3)) + [SAY]
        for keeper in order:
            calls += hear(is_held(keeper, 3)) + [SAY, DONE]
        given = answered(*calls)
        asks = given[3:2 + 2 * keepers:2]
        done = [part[0] for part in given[4 + 2 * keepers::3]]
        kinds = [part[1] for part in asks]
        self.assertEqual(kinds, sorted(kinds))
        return kinds.count(1) + 1, done.count(-11) + 1

    def test_most(self):
        for keepers, most in self.MOST.items():
            for begin in (READ, WRITE):
                for order in (range(keepers), range(keepers - 1, -1, -1)):
                    with self.subTest(keepers=keepers, begin=begin, order=order):
                        self.assertEqual(self.goes_on_upon(keepers, begin, order), (most, most))

    def test_two_mosts_meet(self):
        for keepers, most in self.MOST.items():
            self.assertGreater(2 * most, keepers)

    def test_any_most_will_do(self):
        for asked in itertools.permutations(range(4), 3):
            for told in itertools.combinations(range(4), 3):
                given = answered(qc_start(0, 3, 4), WRITE, *hear(*[holds(keeper, client=3) for keeper in asked]),
                                 *hear(*[is_held(keeper, 3) for keeper in told]), DONE)
                with self.subTest(asked=asked, told=told):
                    self.assertEqual(given[2:], [[1]] * 6 + [[0, 77]])

    def test_a_keeper_too_late_for_the_first_most(self):
        given = answered(START, WRITE, *ASKED, *hear(holds(3, 900, 9, 8, 3)), SAY)
        self.assertEqual(given[-2:], [[0], [0] + tell(6, 3, 77, 3)])

    def test_a_keeper_too_late_for_the_second_most(self):
        given = answered(START, WRITE, *ASKED, *told_most(0, 3, 5), *hear(is_held(3, 3)), DONE)
        self.assertEqual(given[-2:], [[0], [0, 77]])

    def test_may_answer_again_in_the_next_operation(self):
        given = answered(qc_start(0, 3, 1), WRITE, *asked_most(0, 3, 1), *told_most(0, 3, 1), READ,
                         *asked_most(0, 3, 1, 2, (1, 3), 77), *told_most(0, 3, 1, 2), DONE)
        self.assertEqual(given, [[0], [0], [1], [1], [0], [1], [1], [0, 77]])

    def test_who_answered_in_one_phase_does_not_count_in_the_next(self):
        ahead = [START, READ] + hear(*[holds(keeper, client=3) for keeper in (0, 1, 2)])
        given = answered(*ahead, *hear(is_held(3, 3), is_held(4, 3)), DONE, *hear(is_held(0, 3)), DONE)
        self.assertEqual(given[5:], [[1], [1], [-11], [1], [0, 0]])


class ClientGoesBy(unittest.TestCase):
    def goes_by(self, *heard):
        """What a reading tells that hears of these stamps and values, and what a writing tells."""
        keepers = 2 * len(heard) - 1
        answers = [holds(keeper, *stamp, value, 3) for keeper, (stamp, value) in enumerate(heard)]
        told = []
        for begin in (READ, WRITE):
            given = answered(qc_start(0, 3, keepers), begin, *hear(*answers), SAY)
            self.assertEqual(given[2:-1], [[1]] * len(heard))
            told.append(given[-1][1:])
        return told

    def test_the_greatest_stamp(self):
        cases = (
            (((5, 7), 50), ((4, 7), 90)), (((5, 0), 50), ((4, 15), 90)), (((5, 7), 50), ((5, 6), 90)),
            (((256, 0), 50), ((255, 15), 90)), (((5, 15), 50), ((0, 0), 0)), (((2**24, 1), 50), ((2**16, 2), 90)),
            (((5, 7), 50), ((4, 15), 90), ((5, 6), 91)), (((5, 7), 0), ((5, 6), 5), ((1, 15), GREATEST_8)),
        )
        for case in cases:
            (number, client), value = case[0]
            for heard in itertools.permutations(case):
                with self.subTest(heard=heard):
                    self.assertEqual(self.goes_by(*heard), [tell(number, client, value, 3), tell(number + 1, 3, 77, 3)])

    def test_of_like_stamps_the_first_heard(self):
        like = (5, 7)
        for heard in itertools.permutations(((like, 50), (like, 90), ((4, 9), 70))):
            first = [value for stamp, value in heard if stamp == like][0]
            with self.subTest(heard=heard):
                self.assertEqual(self.goes_by(*heard), [tell(5, 7, first, 3), tell(6, 3, 77, 3)])

    def test_nothing_was_held(self):
        self.assertEqual(self.goes_by(((0, 0), 0), ((0, 0), 0)), [tell(0, 0, 0, 3), tell(1, 3, 77, 3)])

    def test_of_the_own_client(self):
        self.assertEqual(self.goes_by(((5, 3), 50)), [tell(5, 3, 50, 3), tell(6, 3, 77, 3)])

    def test_nothing_is_left_of_the_operation_before(self):
        first = [WRITE] + asked_most(0, 3, 5, 1, (900, 9), 8) + told_most(0, 3, 5)
        for begin, told in ((READ, tell(5, 7, 50, 3, 2)), (qc_write(0, 4), tell(6, 3, 4, 3, 2))):
            given = answered(START, *first, begin, *asked_most(0, 3, 5, 2, (5, 7), 50), SAY)
            self.assertEqual(given[-1], [0] + told)


class ClientIsAtTheGreatestNumber(unittest.TestCase):
    def test_one_number_is_left(self):
        given = answered(START, WRITE, *asked_most(0, 3, 5, 1, (GREATEST_4 - 1, 15), 8), SAY, *told_most(0, 3, 5), DONE)
        self.assertEqual(given[5], [0] + tell(GREATEST_4, 3, 77, 3))
        self.assertEqual(given[-1], [0, 77])

    def test_no_number_is_left(self):
        for client in (0, 2, 3, 4, 15):
            with self.subTest(client=client):
                ahead = [START, WRITE] + asked_most(0, 3, 5, 1, (GREATEST_4, client), 8)
                given = answered(*ahead, SAY, DONE, *told_most(0, 3, 5), SAY, DONE, READ, SAY)
                self.assertEqual(given[2:7], [[1], [1], [1], [-11], [-75]])
                self.assertEqual(given[7:], [[0], [0], [0], [-11], [-75], [0], [0] + ask(3, 2)])

    def test_it_is_over_only_when_most_have_answered(self):
        given = answered(START, WRITE, *hear(holds(0, GREATEST_4, 7, 8, 3), holds(1, client=3)), SAY, DONE,
                         *hear(holds(2, client=3)), SAY, DONE)
        self.assertEqual(given[2:], [[1], [1], [0] + ask(3), [-11], [1], [-11], [-75]])

    def test_another_may_begin(self):
        over = [WRITE] + asked_most(0, 3, 5, 1, (GREATEST_4, 7), 8)
        given = answered(START, *over, qc_write(0, 6), *asked_most(0, 3, 5, 2, (9, 7), 8), SAY,
                         *told_most(0, 3, 5, 2), DONE)
        self.assertEqual(given[5], [0])
        self.assertEqual(given[9], [0] + tell(10, 3, 6, 3, 2))
        self.assertEqual(given[-1], [0, 6])

    def test_a_reading_goes_on(self):
        given = answered(START, READ, *asked_most(0, 3, 5, 1, (GREATEST_4, 15), GREATEST_8), SAY,
                         *told_most(0, 3, 5), DONE)
        self.assertEqual(given[5], [0] + tell(GREATEST_4, 15, GREATEST_8, 3))
        self.assertEqual(given[-1], [0, GREATEST_8])
