"""'What holds': many runs over messages that are lost, doubled and late, with a few keepers silent."""

import random
import unittest

from mostcell.cell import answers
from mostcell.client import Client
from mostcell.keeper import Keeper
from tests.lines import (
    GREATEST_4, ask, flat, holds, is_held, message, qc_done, qc_heard, qc_read, qc_say, qc_start, qc_write, qk_heard,
    qk_start, tell,
)

READING = "a reading"
WRITING = "a writing"


class Operation:
    """What was seen of an operation. `end` is None as long as it goes on."""

    def __init__(self, kind, value, begin, end=None):
        self.kind = kind
        self.value = value
        self.begin = begin
        self.end = end


def is_as_one_cell(operations, at_first=0):
    """Whether each could have been done in one moment between its beginning and its end.

    A writing that goes on may have been done already, or not; a reading that goes on tells nothing.
    """
    operations = [one for one in operations if one.end is not None or one.kind == WRITING]
    ended = frozenset(place for place, one in enumerate(operations) if one.end is not None)
    met = set()
    waiting = [(frozenset(), at_first)]
    while waiting:
        state = waiting.pop()
        if ended <= state[0]:
            return True
        if state not in met:
            met.add(state)
            waiting += next_states(operations, *state)
    return False


def next_states(operations, done, held):
    """What may be done next, with what the one cell holds then."""
    left = [place for place in range(len(operations)) if place not in done]
    ends = [operations[place].end for place in left if operations[place].end is not None]
    for place in left:
        one = operations[place]
        if not any(end < one.begin for end in ends) and (one.kind == WRITING or one.value == held):
            yield done | {place}, one.value if one.kind == WRITING else held


class OneCell(unittest.TestCase):
    """The measure itself: what it takes for one cell, and what not."""

    def test_one_after_another(self):
        write = Operation(WRITING, 5, 1, 2)
        self.assertTrue(is_as_one_cell([write, Operation(READING, 5, 3, 4)]))
        self.assertTrue(is_as_one_cell([Operation(READING, 0, 0, 0), write]))
        self.assertFalse(is_as_one_cell([write, Operation(READING, 0, 3, 4)]))
        self.assertFalse(is_as_one_cell([write, Operation(READING, 6, 3, 4)]))
        self.assertFalse(is_as_one_cell([Operation(READING, 5, 0, 0), write]))
        self.assertFalse(is_as_one_cell([write, Operation(WRITING, 6, 3, 4), Operation(READING, 5, 5, 6)]))

    def test_at_the_same_time(self):
        write = Operation(WRITING, 5, 1, 9)
        self.assertTrue(is_as_one_cell([write, Operation(READING, 0, 2, 3), Operation(READING, 5, 4, 5)]))
        self.assertFalse(is_as_one_cell([write, Operation(READING, 5, 2, 3), Operation(READING, 0, 4, 5)]))

    def test_what_goes_on(self):
        write = Operation(WRITING, 5, 1)
        self.assertTrue(is_as_one_cell([write, Operation(READING, 0, 2, 3)]))
        self.assertTrue(is_as_one_cell([write, Operation(READING, 0, 2, 3), Operation(READING, 5, 4, 5)]))
        self.assertFalse(is_as_one_cell([write, Operation(READING, 5, 2, 3), Operation(READING, 0, 4, 5)]))
        self.assertTrue(is_as_one_cell([Operation(READING, 8, 2)]))

    def test_what_was_held_at_first(self):
        self.assertTrue(is_as_one_cell([Operation(READING, 7, 2, 3)], 7))
        self.assertFalse(is_as_one_cell([Operation(READING, 0, 2, 3)], 7))


def number_at(row, at, size):
    return int.from_bytes(bytes(row[at:at + size]), "little")


def stamp_of(row):
    return number_at(row, 8, 4), row[3]


class World:
    """Some clients and keepers, and the messages that are under way between them."""

    def __init__(self, test, seed, clients, keepers, most_operations):
        self.test = test
        self.chance = random.Random(seed)
        self.calls = []
        self.given = []
        self.most_operations = most_operations
        self.clients = [Client() for place in range(clients)]
        self.keepers = [Keeper() for place in range(keepers)]
        self.numbers = self.chance.sample(range(16), clients)
        self.silent = []
        self.under_way = []
        self.now = 0
        self.operations = []
        self.going_on = [None] * clients
        self.heard = [[] for place in range(clients)]
        self.failed = 0
        for place, keeper in enumerate(self.keepers):
            self.note(qk_start(place, place), [keeper.qk_start(place)])
        for place, client in enumerate(self.clients):
            self.note(qc_start(place, self.numbers[place], keepers), [client.qc_start(self.numbers[place], keepers)])

    def note(self, call, given):
        self.calls.append(call)
        self.given.append(given)
        self.now += 1
        return given

    def hold_at_first(self, number, value):
        for place in range(len(self.keepers)):
            self.ask_keeper(place, tell(number, 15, value))

    def held(self, place):
        return stamp_of(self.keepers[place].qk_heard(ask())[1:])

    def ask_keeper(self, place, question):
        """Hand a question to a keeper, and see that what it holds never goes back."""
        before = self.held(place)
        answer = self.note(qk_heard(place, question), self.keepers[place].qk_heard(question))
        after = self.held(place)
        self.test.assertEqual(answer[0], 0)
        self.test.assertGreaterEqual(after, before)
        if question[0] == 3:
            self.test.assertGreaterEqual(after, stamp_of(question))
            self.test.assertEqual(after, max(before, stamp_of(question)))
        return answer[1:]

    def step(self):
        """Do one thing, by chance."""
        dice = self.chance.randrange(10)
        if dice == 0:
            few = self.chance.randrange((len(self.keepers) + 1) // 2)
            self.silent = self.chance.sample(range(len(self.keepers)), few)
        elif dice == 1 and self.under_way:
            self.under_way.pop(self.chance.randrange(len(self.under_way)))
        elif dice < 4:
            self.act(self.chance.randrange(len(self.clients)))
        elif self.under_way:
            self.deliver()

    def act(self, place):
        if self.going_on[place] is not None:
            if self.chance.randrange(2):
                self.say(place)
        elif len(self.operations) < self.most_operations:
            self.begin(place)

    def begin(self, place):
        client = self.clients[place]
        if self.chance.randrange(2):
            value = 1000 + len(self.operations)
            operation = Operation(WRITING, value, self.now)
            given = self.note(qc_write(place, value), [client.qc_write(value)])
        else:
            operation = Operation(READING, None, self.now)
            given = self.note(qc_read(place), [client.qc_read()])
        self.test.assertEqual(given, [0])
        self.operations.append(operation)
        self.going_on[place] = operation
        self.heard[place] = []

    def say(self, place):
        """Send to all keepers what a client asks or tells: once, twice, or lost."""
        given = self.note(qc_say(place), self.clients[place].qc_say())
        question = given[1:]
        self.test.assertEqual(given[0], 0)
        if question[0] == 3 and self.going_on[place].kind == WRITING:
            self.test.assertGreater(stamp_of(question), max(self.heard[place]))
        for keeper in range(len(self.keepers)):
            for copy in range(self.chance.choice((0, 1, 1, 2))):
                self.under_way.append((None, keeper, question))

    def deliver(self):
        """Let one message arrive, not always for the last time."""
        last = len(self.under_way)
        # Mostly one of the newest, or what is long over would be in the way of all that goes on.
        first = max(0, last - 2 * len(self.keepers)) if self.chance.randrange(4) else 0
        at = self.chance.randrange(first, last)
        client, keeper, row = self.under_way[at]
        if self.chance.randrange(5):
            self.under_way.pop(at)
        if keeper in self.silent:
            return
        if client is not None:
            self.hear(client, row)
            return
        # The answer goes to every client: those that it isn't meant for are to pass it over.
        answer = self.ask_keeper(keeper, row)
        for place in range(len(self.clients)):
            if self.numbers[place] == row[1] or self.chance.randrange(4) == 0:
                self.under_way.append((place, keeper, answer))

    def hear(self, place, row):
        client = self.clients[place]
        given = self.note(qc_heard(place, row), [client.qc_heard(row)])
        self.test.assertIn(given, ([0], [1]))
        if given == [0]:
            return
        if row[0] == 2:
            self.heard[place].append(stamp_of(row))
        done = self.note(qc_done(place), client.qc_done())
        operation = self.going_on[place]
        if done[0] == 0:
            if operation.kind == READING:
                operation.value = done[1]
            self.test.assertEqual(done, [0, operation.value])
            operation.end = self.now
        elif done == [-75]:
            self.test.assertEqual(operation.kind, WRITING)
            self.test.assertEqual(max(self.heard[place])[0], GREATEST_4)
            self.operations.remove(operation)
            self.failed += 1
        else:
            self.test.assertEqual(done, [-11])
            return
        self.going_on[place] = None

    def let_all_end(self):
        """With every message arriving, every operation that goes on comes to its end."""
        self.silent = self.silent[:(len(self.keepers) - 1) // 2]
        for place in range(len(self.clients)):
            for phase in range(2):
                if self.going_on[place] is not None:
                    question = self.note(qc_say(place), self.clients[place].qc_say())[1:]
                    for keeper in range(len(self.keepers)):
                        if keeper not in self.silent and self.going_on[place] is not None:
                            self.hear(place, self.ask_keeper(keeper, question))
        self.test.assertEqual(self.going_on, [None] * len(self.clients))


class WhatHolds(unittest.TestCase):
    SIZES = ((1, 1), (1, 3), (2, 1), (2, 2), (2, 3), (2, 4), (3, 3), (3, 5), (4, 4), (3, 7), (2, 15))

    def run_one(self, seed, clients, keepers, steps=400, number=0):
        world = World(self, seed, clients, keepers, 14)
        at_first = 0
        if number:
            at_first = 77
            world.hold_at_first(number, at_first)
        for step in range(steps):
            world.step()
        self.assertTrue(is_as_one_cell(world.operations, at_first))
        world.let_all_end()
        self.assertTrue(is_as_one_cell(world.operations, at_first))
        if clients <= 2 and keepers <= 4:
            want = [part for given in world.given for part in [len(given)] + given]
            self.assertTrue(answers(flat(world.calls)) == want)
        return world

    def test_as_if_there_were_one_cell(self):
        ended = 0
        for clients, keepers in self.SIZES:
            for seed in range(20):
                with self.subTest(clients=clients, keepers=keepers, seed=seed):
                    world = self.run_one(seed, clients, keepers)
                    self.assertEqual(world.failed, 0)
                    ended += len(world.operations)
        self.assertGreater(ended, 1000)

    def test_near_the_greatest_number(self):
        failed = ended = 0
        for clients, keepers in ((1, 3), (2, 3), (2, 4), (3, 5)):
            for seed in range(20):
                with self.subTest(clients=clients, keepers=keepers, seed=seed):
                    world = self.run_one(seed, clients, keepers, 400, GREATEST_4 - 2)
                    failed += world.failed
                    ended += len(world.operations)
        self.assertGreater(failed, 20)
        self.assertGreater(ended, 200)


class WrittenOut(unittest.TestCase):
    """Two runs of which each step stands here, on the calls' own list."""

    def assert_answers(self, steps):
        given = answers(flat([call for call, want in steps]))
        self.assertEqual(given, [part for call, want in steps for part in [len(want)] + want])

    def started(self):
        return [(qk_start(place, place), [0]) for place in range(3)] + [
            (qc_start(0, 3, 3), [0]), (qc_start(1, 9, 3), [0])]

    def test_a_reading_tells_what_one_keeper_alone_held(self):
        # A writing reaches keeper 0 alone; who reads that has to see to it that nobody reads older things later.
        told = tell(1, 3, 77, 3)
        read = [
            (qc_read(1), [0]), (qc_say(1), [0] + ask(9)),
            (qk_heard(0, ask(9)), [0] + holds(0, 1, 3, 77, 9)), (qk_heard(1, ask(9)), [0] + holds(1, 0, 0, 0, 9)),
            (qc_heard(1, holds(1, 0, 0, 0, 9)), [1]), (qc_heard(1, holds(0, 1, 3, 77, 9)), [1]),
            (qc_done(1), [-11]), (qc_say(1), [0] + tell(1, 3, 77, 9)),
            (qk_heard(1, tell(1, 3, 77, 9)), [0] + is_held(1, 9)), (qc_heard(1, is_held(1, 9)), [1]),
            (qc_done(1), [-11]), (qk_heard(0, tell(1, 3, 77, 9)), [0] + is_held(0, 9)),
            (qc_heard(1, is_held(0, 9)), [1]), (qc_done(1), [0, 77]),
        ]
        again = [
            (qc_read(1), [0]), (qc_heard(1, holds(1, 0, 0, 0, 9)), [0]), (qc_say(1), [0] + ask(9, 2)),
            (qk_heard(2, ask(9, 2)), [0] + holds(2, 0, 0, 0, 9, 2)),
            (qk_heard(1, ask(9, 2)), [0] + holds(1, 1, 3, 77, 9, 2)),
            (qc_heard(1, holds(2, 0, 0, 0, 9, 2)), [1]), (qc_heard(1, holds(1, 1, 3, 77, 9, 2)), [1]),
            (qc_say(1), [0] + tell(1, 3, 77, 9, 2)),
        ]
        self.assert_answers(self.started() + [
            (qc_write(0, 77), [0]), (qc_say(0), [0] + ask(3)), (qk_heard(0, ask(3)), [0] + holds(0, client=3)),
            (qk_heard(2, ask(3)), [0] + holds(2, client=3)), (qc_heard(0, holds(2, client=3)), [1]),
            (qc_heard(0, holds(2, client=3)), [0]), (qc_heard(0, holds(0, client=3)), [1]), (qc_say(0), [0] + told),
            (qk_heard(0, told), [0] + is_held(0, 3)), (qc_heard(0, is_held(0, 3)), [1]), (qc_done(0), [-11]),
        ] + read + again)

    def test_a_late_message_takes_nothing_back(self):
        first, second = tell(1, 3, 77, 3), tell(2, 9, 88, 9)
        self.assert_answers(self.started() + [
            (qc_write(0, 77), [0]), (qc_heard(0, holds(0, client=3)), [1]), (qc_heard(0, holds(1, client=3)), [1]),
            (qc_say(0), [0] + first), (qk_heard(0, first), [0] + is_held(0, 3)),
            (qk_heard(1, first), [0] + is_held(1, 3)), (qc_heard(0, is_held(0, 3)), [1]),
            (qc_heard(0, is_held(1, 3)), [1]), (qc_done(0), [0, 77]),
            (qc_write(1, 88), [0]), (qc_heard(1, is_held(0, 3)), [0]),
            (qk_heard(1, ask(9)), [0] + holds(1, 1, 3, 77, 9)),
            (qc_heard(1, holds(1, 1, 3, 77, 9)), [1]), (qc_heard(1, holds(2, 0, 0, 0, 9)), [1]),
            (qc_say(1), [0] + second), (qk_heard(2, second), [0] + is_held(2, 9)),
            (qk_heard(2, first), [0] + is_held(2, 3)), (qk_heard(2, ask(3, 2)), [0] + holds(2, 2, 9, 88, 3, 2)),
            (qc_heard(1, is_held(2, 9)), [1]), (qk_heard(0, second), [0] + is_held(0, 9)),
            (qk_heard(0, first), [0] + is_held(0, 3)), (qc_heard(1, is_held(0, 9)), [1]), (qc_done(1), [0, 88]),
            (qc_read(0), [0]), (qk_heard(0, ask(3, 2)), [0] + holds(0, 2, 9, 88, 3, 2)),
            (qk_heard(1, ask(3, 2)), [0] + holds(1, 1, 3, 77, 3, 2)), (qc_heard(0, holds(1, 1, 3, 77, 3, 2)), [1]),
            (qc_heard(0, holds(0, 2, 9, 88, 3, 2)), [1]), (qc_say(0), [0] + message(3, 3, 0, 9, 2, 2, 88)),
            (qc_heard(0, is_held(2, 3, 2)), [1]), (qc_heard(0, is_held(1, 3, 2)), [1]), (qc_done(0), [0, 88]),
        ])
