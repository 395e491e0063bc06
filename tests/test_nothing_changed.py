"""A refusal, and an answer of 0 of qc_heard, leave all as it was: what follows is as if they hadn't been called."""

import unittest

from tests.lines import (
    GREATEST_4, GREATEST_8, answered, ask, holds, is_held, message, qc_done, qc_heard, qc_read, qc_say, qc_start,
    qc_write, qk_heard, qk_start, tell, told_most,
)


def story():
    """A line on which a writing, a reading, one that can't be done and another begin and end, with all that is said."""
    calls = [qk_start(0, 0), qk_heard(0, tell(5, 7, 8)), qc_start(1, 3, 3), qc_start(0, 3, 3)]
    operations = ((qc_write(0, 77), 5), (qc_read(0), 6), (qc_write(0, 78), GREATEST_4), (qc_read(0), GREATEST_4))
    for operation, (begin, number) in enumerate(operations, 1):
        calls += [begin, qc_say(0), qc_heard(0, holds(2, number, 7, 8 + number, 3, operation)), qc_say(0)]
        calls += [qc_heard(0, holds(0, number - 1, 15, 9, 3, operation)), qc_say(0), qk_heard(0, ask(3, operation))]
        calls += told_most(0, 3, 3, operation) + [qc_say(0), qc_done(0)]
    return calls


class NothingChanged(unittest.TestCase):
    def changes_nothing(self, call, numbers, places):
        """Whether `call`, wherever on the line it answers one of these numbers, leaves all else as it is."""
        line = story()
        want = answered(*line)
        met = 0
        for place in places:
            given = answered(*line[:place], call, call, *line[place:])
            if given[place][0] in numbers:
                met += 1
                with self.subTest(call=call, place=place):
                    self.assertEqual(given[:place] + given[place + 2:], want)
                    self.assertEqual(given[place + 1], given[place])
        self.assertGreater(met, 0)

    def test_refused_calls_of_a_client(self):
        length = len(story()) + 1
        wrong = message(4, 3, 2, number=9)
        for call in (qc_start(0, 16, 3), qc_start(0, 3, 0), qc_start(0, 4, 16), qc_heard(0, wrong),
                     qc_heard(0, holds(1, 900, 9, 8, 3)[:-1] + [0])):
            self.changes_nothing(call, (-22, -71), range(4, length))
        for call in (qc_read(0), qc_write(0, 0), qc_write(0, GREATEST_8), qc_say(0), qc_done(0)):
            self.changes_nothing(call, (-11, -16, -75), range(4, length))

    def test_messages_that_are_passed_over(self):
        length = len(story()) + 1
        for operation in range(1, 6):
            for answer in (holds(2, 900, 9, 8, 3, operation), holds(3, 900, 9, 8, 3, operation),
                           holds(1, 900, 9, 8, 2, operation), is_held(2, 3, operation), is_held(0, 3, operation),
                           ask(3, operation), tell(900, 9, 8, 3, operation)):
                self.changes_nothing(qc_heard(0, answer), (0,), range(4, length))

    def test_what_is_said_and_done_is_only_looked_at(self):
        length = len(story()) + 1
        for call in (qc_say(0), qc_done(0)):
            self.changes_nothing(call, (0,), range(4, length))

    def test_calls_of_the_other_client(self):
        length = len(story()) + 1
        for call in (qc_start(1, 3, 3), qc_start(1, 16, 0), qc_done(1), qc_say(1), qc_heard(1, holds(1, 900, 9, 8, 3))):
            self.changes_nothing(call, (0, -11, -22), range(3, length))

    def test_refused_calls_of_a_keeper(self):
        length = len(story()) + 1
        for call in (qk_start(0, 15), qk_heard(0, holds(0, 900, 9, 8)), qk_heard(0, message(3, 0, 1, 9, 1, 900, 8))):
            self.changes_nothing(call, (-22, -71), range(1, length))
