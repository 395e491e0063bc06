"""The calls on keepers and clients, as one list of whole numbers."""

from mostcell.client import Client
from mostcell.keeper import Keeper
from mostcell.reader import Reader

KEEPERS = 4
CLIENTS = 2

QK_START = 0
QK_HEARD = 1
QC_START = 2
QC_READ = 3
QC_WRITE = 4
QC_SAY = 5
QC_HEARD = 6
QC_DONE = 7


class NoSuchCall(ValueError):
    """A call has a number that no call has."""


def answers(calls):
    """What each call of the list answers, with how many numbers that is before it."""
    keepers = [Keeper() for place in range(KEEPERS)]
    clients = [Client() for place in range(CLIENTS)]
    reader = Reader(calls)
    answered = []
    while reader.has_more():
        one = answer_next_call(reader, keepers, clients)
        answered.append(len(one))
        answered.extend(one)
    return answered


def answer_next_call(reader, keepers, clients):
    """Make the call at which the reader stands; answers a list of numbers."""
    number = reader.take_number()
    place = reader.take_number()
    if number in (QK_START, QK_HEARD):
        return call_keeper(keepers[place], number, reader)
    return call_client(clients[place], number, reader)


def call_keeper(keeper, number, reader):
    """Make a call whose name begins with qk_; answers a list of numbers."""
    if number == QK_START:
        return [keeper.qk_start(reader.take_number())]
    return keeper.qk_heard(reader.take_row())


def call_client(client, number, reader):
    """Make a call whose name begins with qc_; answers a list of numbers."""
    if number == QC_START:
        me = reader.take_number()
        keepers = reader.take_number()
        return [client.qc_start(me, keepers)]
    if number == QC_READ:
        return [client.qc_read()]
    if number == QC_WRITE:
        return [client.qc_write(reader.take_number())]
    if number == QC_SAY:
        return client.qc_say()
    if number == QC_HEARD:
        return [client.qc_heard(reader.take_row())]
    if number == QC_DONE:
        return client.qc_done()
    raise NoSuchCall(f"no call has the number {number}")
