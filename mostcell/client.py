"""A client: who it is, how many keepers there are, and its operations."""

from mostcell.message import ASK, GREATEST_CLIENT, TELL, Message, bytes_of, right_message
from mostcell.operation import Operation
from mostcell.refusals import COULD_NOT_BE_DONE, GOES_ON, NOT_NOW, OUT_OF_RANGE, USED_UP, WRONG_MESSAGE

GREATEST_COUNT_OF_KEEPERS = 15
GREATEST_OPERATION = 0xFFFFFFFF


class Client:
    """One that reads and writes the cell. It is asked nothing before its start answers 0."""

    def __init__(self):
        self.me = 0
        self.keepers = 0
        self.begun = 0
        self.last = None

    def qc_start(self, me, keepers):
        """Begin as the client `me` of so many keepers, with no operation; answers a number."""
        if me > GREATEST_CLIENT or not 1 <= keepers <= GREATEST_COUNT_OF_KEEPERS:
            return OUT_OF_RANGE
        self.me = me
        self.keepers = keepers
        self.begun = 0
        self.last = None
        return 0

    def qc_read(self):
        """Begin a reading; answers a number."""
        return self.begin(None)

    def qc_write(self, value):
        """Begin a writing of `value`; answers a number."""
        return self.begin(value)

    def qc_say(self):
        """What is asked or told all keepers now; answers a list: a number, then the question's bytes."""
        if not self.has_one_going_on():
            return [NOT_NOW]
        if self.last.asking == ASK:
            question = Message(ASK, self.me, 0, self.begun, (0, 0), 0)
        else:
            question = Message(TELL, self.me, 0, self.begun, self.last.stamp, self.last.value)
        return [0] + bytes_of(question)

    def qc_heard(self, answer):
        """Take a message's 24 bytes as an answer, if they are one that is awaited; answers a number."""
        heard = right_message(answer)
        if heard is None:
            return WRONG_MESSAGE
        if not self.awaits(heard):
            return 0
        self.last.keep(heard)
        if 2 * len(self.last.answered) > self.keepers:
            self.last.go_on_from_most()
        return 1

    def qc_done(self):
        """What the last operation read or wrote; answers a list: a number, then the value."""
        if self.last is None or self.last.goes_on():
            return [NOT_NOW]
        if not self.last.is_done:
            return [COULD_NOT_BE_DONE]
        return [0, self.last.value]

    def begin(self, own_value):
        """Begin a writing of a value, or a reading if that is None; answers a number."""
        if self.has_one_going_on():
            return GOES_ON
        if self.begun == GREATEST_OPERATION:
            return USED_UP
        self.begun += 1
        self.last = Operation(self.me, own_value)
        return 0

    def has_one_going_on(self):
        """Whether an operation goes on."""
        return self.last is not None and self.last.goes_on()

    def awaits(self, heard):
        """Whether a right message is an answer to what is asked now, from a keeper that has yet to answer."""
        return (
            self.has_one_going_on()
            and heard.client == self.me
            and heard.operation == self.begun
            and heard.keeper < self.keepers
            and self.last.awaits(heard.kind, heard.keeper)
        )
