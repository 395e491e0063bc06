"""The interface, and what the document says of every call and every line."""

import contextlib
import io
import unittest

from mostcell.cell import answers
from tests.lines import answered, ask, flat, message, qc_read, qc_start, qk_heard, qk_start, tell


class Unchanging(list):
    """A list that fails where it is changed, even if it were changed back."""

    def refuse(self, *given, **named):
        raise AssertionError("what was handed in is changed")

    __setitem__ = __delitem__ = __iadd__ = __imul__ = refuse
    append = extend = insert = pop = remove = clear = sort = reverse = refuse


def some_of_all():
    return flat((
        qk_start(0, 0), qk_start(3, 15), qk_heard(0, tell(1, 2, 3)), qk_heard(0, ask()), qk_heard(0, message(4)),
        qc_start(0, 3, 5), qc_start(1, 16, 5), qc_read(0), qc_read(0),
    ))


class Interface(unittest.TestCase):
    def test_number_by_number(self):
        self.assertEqual(
            answers([0, 0, 14, 1, 0, 24] + tell(5, 2, 258, 3, 7) + [1, 0, 24] + ask(9, 8) + [1, 0, 24] + [0] * 24
                    + [0, 1, 15, 2, 0, 15, 15, 3, 0, 3, 0, 2, 1, 16, 0]),
            [1, 0, 25, 0] + message(4, 3, 14, 0, 7, 0, 0) + [25, 0] + message(2, 9, 14, 2, 8, 5, 258) + [1, -71]
            + [1, -22, 1, 0, 1, 0, 1, -16, 1, -22],
        )

    def test_bytes_written_out(self):
        question = [1, 0, 0, 0, 1, 0, 0, 0] + [0] * 12
        answer = [2, 0, 0, 0, 1, 0, 0, 0] + [0] * 12
        self.assertEqual(
            answers([0, 0, 0, 1, 0, 24] + question + [0x7D, 0xAC, 0x8A, 0x79]),
            [1, 0, 25, 0] + answer + [0xBA, 0xB4, 0x4E, 0x20],
        )

    def test_one_call(self):
        self.assertEqual(answers([0, 3, 0]), [1, 0])
        self.assertEqual(answers([2, 1, 16, 1]), [1, -22])

    def test_plain_list_of_plain_numbers(self):
        given = answers(some_of_all())
        self.assertIs(type(given), list)
        self.assertEqual({type(number) for number in given}, {int})

    def test_handed_in_list_stays_as_it_was(self):
        calls = some_of_all()
        before = list(calls)
        given = answers(calls)
        self.assertEqual(calls, before)
        self.assertIsNot(given, calls)

    def test_handed_in_list_is_not_changed_for_a_while_either(self):
        self.assertEqual(answers(Unchanging(some_of_all())), answers(some_of_all()))

    def test_prints_nothing(self):
        out, err = io.StringIO(), io.StringIO()
        with contextlib.redirect_stdout(out), contextlib.redirect_stderr(err):
            answers(some_of_all())
        self.assertEqual((out.getvalue(), err.getvalue()), ("", ""))

    def assert_same(self, given, want):
        # assertEqual would be at it for minutes to show how two such long lists differ.
        differing = [place for place, pair in enumerate(zip(given, want)) if pair[0] != pair[1]]
        self.assertEqual((len(given), differing[:5]), (len(want), []))

    def test_thousand_calls(self):
        calls = [qk_start(0, 1), qc_start(0, 0, 3)]
        want = [[0], [0]]
        for number in range(1, 400):
            calls += [qk_heard(0, tell(number, 3, number * 7, 2, number)), qc_read(0)]
            want += [[0] + message(4, 2, 1, 0, number, 0, 0), [0] if number == 1 else [-16]]
        calls += [qk_heard(0, ask())] + [qk_start(1, 15)] * 199
        want += [[0] + message(2, 0, 1, 3, 1, 399, 399 * 7)] + [[-22]] * 199
        self.assertEqual(len(calls), 1000)
        self.assertLessEqual(len(flat(calls)), 16000)
        self.assert_same(answered(*calls), want)

    def test_longest_list(self):
        calls = [qk_start(0, 0)] + [qk_heard(0, ask())] * 592
        self.assertLessEqual(len(flat(calls)), 16000)
        self.assert_same(answered(*calls), [[0]] + [[0] + message(2)] * 592)


class Objects(unittest.TestCase):
    def test_each_keeper_has_a_state_of_its_own(self):
        places = range(4)
        given = answered(
            *[qk_start(place, 10 + place) for place in places],
            *[qk_heard(place, tell(place + 1, place, 50 + place)) for place in places],
            *[qk_heard(place, ask()) for place in places],
        )
        self.assertEqual(given[4:8], [[0] + message(4, 0, 10 + place) for place in places])
        self.assertEqual(given[8:], [[0] + message(2, 0, 10 + place, place, 1, place + 1, 50 + place)
                                     for place in places])

    def test_starting_one_keeper_leaves_the_others(self):
        given = answered(
            qk_start(0, 0), qk_start(1, 0), qk_heard(0, tell(5, 1, 6)), qk_heard(1, tell(5, 1, 6)),
            qk_start(1, 2), qk_start(3, 15), qk_heard(0, ask()), qk_heard(1, ask()),
        )
        self.assertEqual(given[6:], [[0] + message(2, 0, 0, 1, 1, 5, 6), [0] + message(2, 0, 2)])

    def test_two_keepers_of_the_same_number_are_two(self):
        given = answered(qk_start(0, 4), qk_start(2, 4), qk_heard(0, tell(5, 1, 6)), qk_heard(2, ask()))
        self.assertEqual(given[3], [0] + message(2, 0, 4))

    def test_each_client_has_a_state_of_its_own(self):
        given = answered(
            qc_start(0, 3, 5), qc_start(1, 3, 5), qc_read(0), qc_read(1), qc_read(0), qc_start(0, 3, 5),
            qc_read(1), qc_read(0),
        )
        self.assertEqual(given, [[0], [0], [0], [0], [-16], [0], [-16], [0]])

    def test_keepers_and_clients_are_apart(self):
        given = answered(
            qk_start(0, 5), qc_start(0, 3, 5), qc_read(0), qk_heard(0, tell(5, 1, 6)), qk_start(0, 5), qc_read(0),
            qk_heard(0, tell(4, 1, 6)), qc_start(0, 3, 5), qk_heard(0, ask()), qc_read(0),
        )
        self.assertEqual(given[5], [-16])
        self.assertEqual(given[8:], [[0] + message(2, 0, 5, 1, 1, 4, 6), [0]])

    def test_each_time_is_as_if_for_the_first(self):
        first = answers(some_of_all())
        self.assertEqual(answers(some_of_all()), first)
        answered(qk_start(0, 9), qk_heard(0, tell(900, 1, 6)), qc_start(0, 3, 5), qc_read(0))
        self.assertEqual(answers(some_of_all()), first)
        given = answered(qk_start(0, 9), qk_heard(0, ask()), qc_start(0, 3, 5), qc_read(0))
        self.assertEqual(given, [[0], [0] + message(2, 0, 9), [0], [0]])

    def test_what_is_given_back_is_the_callers_own(self):
        first = answers(some_of_all())
        kept = list(first)
        first.clear()
        self.assertEqual(answers(some_of_all()), kept)
