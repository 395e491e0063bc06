"""The interface, and what the document says of every call and every line."""

import contextlib
import io
import unittest

from mostcell.cell import NoSuchCall, answers
from tests.lines import (
    GREATEST_4, GREATEST_8, answered, ask, asked_most, flat, holds, is_held, message, qc_done, qc_heard, qc_read,
    qc_say, qc_start, qc_write, qk_heard, qk_start, tell, told_most,
)


class Unchanging(list):
    """A list that fails where it is changed, even if it were changed back."""

    def refuse(self, *given, **named):
        raise AssertionError("what was handed in is changed")

    __setitem__ = __delitem__ = __iadd__ = __imul__ = refuse
    append = extend = insert = pop = remove = clear = sort = reverse = refuse


def some_of_all():
    return flat((
        qk_start(0, 0), qk_start(3, 15), qk_heard(0, tell(1, 2, 3)), qk_heard(0, ask()), qk_heard(0, message(4)),
        qc_start(0, 3, 2), qc_start(1, 16, 5), qc_read(0), qc_read(0), qc_say(0), qc_heard(0, ask()), qc_done(0),
        *asked_most(0, 3, 2, 1, (5, 7), GREATEST_8), qc_say(0), *told_most(0, 3, 2), qc_say(0), qc_done(0),
        qc_write(0, GREATEST_8), *asked_most(0, 3, 2, 2, (GREATEST_4, 7), 8), qc_done(0), qc_heard(0, message(5)),
    ))


class Interface(unittest.TestCase):
    def test_number_by_number(self):
        self.assertEqual(
            answers([0, 0, 14, 1, 0, 24] + tell(5, 2, 258, 3, 7) + [1, 0, 24] + ask(9, 8) + [1, 0, 24] + [0] * 24
                    + [0, 1, 15, 2, 0, 15, 15, 3, 0, 3, 0, 2, 1, 16, 0]),
            [1, 0, 25, 0] + message(4, 3, 14, 0, 7, 0, 0) + [25, 0] + message(2, 9, 14, 2, 8, 5, 258) + [1, -71]
            + [1, -22, 1, 0, 1, 0, 1, -16, 1, -22],
        )

    def test_a_clients_calls_number_by_number(self):
        value = 0xFFFEFDFCFBFAF9F8
        self.assertEqual(
            answers([2, 1, 15, 1, 5, 1, 7, 1, 4, 1, value, 5, 1, 6, 1, 24] + message(2, 15, 0, 4, 1, 258, 6)
                    + [5, 1, 7, 1, 6, 1, 24] + message(4, 15) + [7, 1, 5, 1, 3, 1, 4, 1, 0, 6, 1, 24] + [0] * 24),
            [1, 0, 1, -11, 1, -11, 1, 0, 25, 0] + message(1, 15) + [1, 1, 25, 0] + message(3, 15, 0, 15, 1, 259, value)
            + [1, -11, 1, 1, 2, 0, value, 1, -11, 1, 0, 1, -16, 1, -71],
        )

    def test_all_eight_number_by_number(self):
        ahead = [0, 3, 0, 2, 0, 3, 1, 4, 0, 9, 5, 0]
        asked = [1, 3, 24] + message(1, 3) + [6, 0, 24] + message(2, 3) + [5, 0]
        told = [1, 3, 24] + message(3, 3, 0, 3, 1, 1, 9) + [6, 0, 24] + message(4, 3) + [7, 0, 3, 0, 5, 0]
        self.assertEqual(
            answers(ahead + asked + told),
            [1, 0, 1, 0, 1, 0, 25, 0] + message(1, 3) + [25, 0] + message(2, 3) + [1, 1, 25, 0]
            + message(3, 3, 0, 3, 1, 1, 9) + [25, 0] + message(4, 3) + [1, 1, 2, 0, 9, 1, 0, 25, 0]
            + message(1, 3, 0, 0, 2),
        )

    def test_calls_there_are_not(self):
        for number in (8, 9, 255):
            with self.subTest(number=number), self.assertRaises(NoSuchCall):
                answers([number, 0, 0])

    def test_bytes_written_out(self):
        question = [1, 0, 0, 0, 1, 0, 0, 0] + [0] * 12
        answer = [2, 0, 0, 0, 1, 0, 0, 0] + [0] * 12
        self.assertEqual(
            answers([0, 0, 0, 1, 0, 24] + question + [0x7D, 0xAC, 0x8A, 0x79]),
            [1, 0, 25, 0] + answer + [0xBA, 0xB4, 0x4E, 0x20],
        )

    def test_one_call(self):
        self.assertEqual(answers([0, 3, 0]), [1, 0])
        self.assertEqual(answers([2, 1, 16, 1]), [1, -22])

    def test_plain_list_of_plain_numbers(self):
        given = answers(some_of_all())
        self.assertIs(type(given), list)
        self.assertEqual({type(number) for number in given}, {int})

    def test_handed_in_list_stays_as_it_was(self):
        calls = some_of_all()
        before = list(calls)
        given = answers(calls)
        self.assertEqual(calls, before)
        self.assertIsNot(given, calls)

    def test_handed_in_list_is_not_changed_for_a_while_either(self):
        self.assertEqual(answers(Unchanging(some_of_all())), answers(some_of_all()))

    def test_prints_nothing(self):
        out, err = io.StringIO(), io.StringIO()
        with contextlib.redirect_stdout(out), contextlib.redirect_stderr(err):
            answers(some_of_all())
        self.assertEqual((out.getvalue(), err.getvalue()), ("", ""))

    def assert_same(self, given, want):
        # assertEqual would be at it for minutes to show how two such long lists differ.
        differing = [place for place, pair in enumerate(zip(given, want)) if pair[0] != pair[1]]
        self.assertEqual((len(given), differing[:5]), (len(want), []))

    def test_thousand_calls(self):
        calls = [qk_start(0, 1), qc_start(0, 0, 3)]
        want = [[0], [0]]
        for number in range(1, 400):
            calls += [qk_heard(0, tell(number, 3, number * 7, 2, number)), qc_read(0)]
            want += [[0] + message(4, 2, 1, 0, number, 0, 0), [0] if number == 1 else [-16]]
        calls += [qk_heard(0, ask())] + [qk_start(1, 15)] * 199
        want += [[0] + message(2, 0, 1, 3, 1, 399, 399 * 7)] + [[-22]] * 199
        self.assertEqual(len(calls), 1000)
        self.assertLessEqual(len(flat(calls)), 16000)
        self.assert_same(answered(*calls), want)

    def test_thousand_calls_of_a_client(self):
        calls = [qc_start(0, 3, 1)]
        want = [[0]]
        for operation in range(1, 112):
            value = GREATEST_8 - operation
            stamp = (operation, 3)
            calls += [qc_write(0, value), qc_say(0), qc_done(0), *asked_most(0, 3, 1, operation, stamp, 4), qc_say(0),
                      *told_most(0, 3, 1, operation), qc_done(0), qc_say(0), qc_heard(0, is_held(0, 3, operation))]
            want += [[0], [0] + ask(3, operation), [-11], [1], [0] + tell(operation + 1, 3, value, 3, operation), [1],
                     [0, value], [-11], [0]]
        self.assertEqual(len(calls), 1000)
        self.assertLessEqual(len(flat(calls)), 16000)
        self.assert_same(answered(*calls), want)

    def test_longest_list_of_a_client(self):
        calls = [qc_start(0, 3, 2), qc_write(0, 9)]
        calls += [qc_heard(0, holds(1, 5, 7, number, 3)) for number in range(590)]
        calls += [qc_heard(0, holds(0, 5, 7, 0, 3)), qc_say(0), qc_done(0)]
        self.assertEqual(15900 < len(flat(calls)) <= 16000, True)
        self.assert_same(answered(*calls), [[0], [0], [1]] + [[0]] * 589 + [[1], [0] + tell(6, 3, 9, 3), [-11]])

    def test_longest_list(self):
        calls = [qk_start(0, 0)] + [qk_heard(0, ask())] * 592
        self.assertLessEqual(len(flat(calls)), 16000)
        self.assert_same(answered(*calls), [[0]] + [[0] + message(2)] * 592)


class Objects(unittest.TestCase):
    def test_each_keeper_has_a_state_of_its_own(self):
        places = range(4)
        given = answered(
            *[qk_start(place, 10 + place) for place in places],
            *[qk_heard(place, tell(place + 1, place, 50 + place)) for place in places],
            *[qk_heard(place, ask()) for place in places],
        )
        self.assertEqual(given[4:8], [[0] + message(4, 0, 10 + place) for place in places])
        self.assertEqual(given[8:], [[0] + message(2, 0, 10 + place, place, 1, place + 1, 50 + place)
                                     for place in places])

    def test_starting_one_keeper_leaves_the_others(self):
        given = answered(
            qk_start(0, 0), qk_start(1, 0), qk_heard(0, tell(5, 1, 6)), qk_heard(1, tell(5, 1, 6)),
            qk_start(1, 2), qk_start(3, 15), qk_heard(0, ask()), qk_heard(1, ask()),
        )
        self.assertEqual(given[6:], [[0] + message(2, 0, 0, 1, 1, 5, 6), [0] + message(2, 0, 2)])

    def test_two_keepers_of_the_same_number_are_two(self):
        given = answered(qk_start(0, 4), qk_start(2, 4), qk_heard(0, tell(5, 1, 6)), qk_heard(2, ask()))
        self.assertEqual(given[3], [0] + message(2, 0, 4))

    def test_each_client_has_a_state_of_its_own(self):
        given = answered(
            qc_start(0, 3, 5), qc_start(1, 3, 5), qc_read(0), qc_read(1), qc_read(0), qc_start(0, 3, 5),
            qc_read(1), qc_read(0),
        )
        self.assertEqual(given, [[0], [0], [0], [0], [-16], [0], [-16], [0]])

    def test_two_clients_of_the_same_number_are_two(self):
        for first, second in ((0, 1), (1, 0)):
            given = answered(
                qc_start(first, 3, 3), qc_start(second, 3, 3), qc_write(first, 9), qc_say(second), qc_done(second),
                qc_heard(second, holds(0, 5, 7, 8, 3)), qc_read(second), qc_heard(first, holds(0, 5, 7, 8, 3)),
                qc_heard(second, holds(1, 6, 7, 8, 3)), qc_heard(first, holds(1, 0, 0, 0, 3)), qc_say(first),
                qc_say(second), *told_most(first, 3, 3), qc_done(first), qc_done(second),
                qc_heard(second, holds(2, 4, 7, 1, 3)), qc_say(second), qc_say(first),
            )
            with self.subTest(first=first):
                self.assertEqual(given[2:6], [[0], [-11], [-11], [0]])
                self.assertEqual(given[6:12], [[0], [1], [1], [1], [0] + tell(6, 3, 9, 3), [0] + ask(3)])
                self.assertEqual(given[12:], [[1], [1], [0, 9], [-11], [1], [0] + tell(6, 7, 8, 3), [-11]])

    def test_two_clients_and_four_keepers(self):
        keepers = range(4)
        written = tell(1, 2, 50, 2)
        calls = [qk_start(place, place) for place in keepers] + [qc_start(0, 2, 4), qc_start(1, 9, 4)]
        calls += [qc_write(0, 50), qc_read(1), *asked_most(0, 2, 4), qc_say(0)]
        calls += [qk_heard(place, written) for place in (1, 2, 3)] + told_most(0, 2, 4) + [qc_done(0), qc_done(1)]
        calls += [qk_heard(place, ask(9)) for place in keepers]
        calls += [qc_heard(1, holds(place, *((1, 2, 50) if place else (0, 0, 0)), 9)) for place in (0, 3, 2)]
        calls += [qc_say(1), *[qc_heard(1, is_held(place, 9)) for place in (3, 0, 1)], qc_done(1), qc_done(0)]
        given = answered(*calls)
        self.assertEqual(given[:11], [[0]] * 8 + [[1]] * 3)
        self.assertEqual(given[11:15], [[0] + written] + [[0] + is_held(place, 2) for place in (1, 2, 3)])
        self.assertEqual(given[15:20], [[1], [1], [1], [0, 50], [-11]])
        self.assertEqual(given[20:24], [[0] + holds(0, client=9)] + [[0] + holds(place, 1, 2, 50, 9)
                                                                     for place in (1, 2, 3)])
        self.assertEqual(given[24:], [[1]] * 3 + [[0] + tell(1, 2, 50, 9)] + [[1]] * 3 + [[0, 50], [0, 50]])

    def test_keepers_and_clients_are_apart(self):
        given = answered(
            qk_start(0, 5), qc_start(0, 3, 5), qc_read(0), qk_heard(0, tell(5, 1, 6)), qk_start(0, 5), qc_read(0),
            qk_heard(0, tell(4, 1, 6)), qc_start(0, 3, 5), qk_heard(0, ask()), qc_read(0),
        )
        self.assertEqual(given[5], [-16])
        self.assertEqual(given[8:], [[0] + message(2, 0, 5, 1, 1, 4, 6), [0]])

    def test_each_time_is_as_if_for_the_first(self):
        first = answers(some_of_all())
        self.assertEqual(answers(some_of_all()), first)
        answered(qk_start(0, 9), qk_heard(0, tell(900, 1, 6)), qc_start(0, 3, 1), qc_write(0, 8),
                 *asked_most(0, 3, 1, 1, (5, 7), 6), *told_most(0, 3, 1))
        self.assertEqual(answers(some_of_all()), first)
        given = answered(qk_start(0, 9), qk_heard(0, ask()), qc_start(0, 3, 5), qc_say(0), qc_done(0), qc_read(0))
        self.assertEqual(given, [[0], [0] + message(2, 0, 9), [0], [-11], [-11], [0]])

    def test_what_is_given_back_is_the_callers_own(self):
        first = answers(some_of_all())
        kept = list(first)
        first.clear()
        self.assertEqual(answers(some_of_all()), kept)
