"""A keeper: who it is, and what it holds."""

from mostcell.message import ASK, GREATEST_KEEPER, HOLDS, IS_HELD, Message, bytes_of, is_question, right_message
from mostcell.refusals import OUT_OF_RANGE, WRONG_MESSAGE


class Keeper:
    """One of the machines that keep the cell. It is asked nothing before its start answers 0."""

    def __init__(self):
        self.me = 0
        self.stamp = (0, 0)
        self.value = 0

    def qk_start(self, me):
        """Begin as the keeper `me`, which holds nothing yet; answers a number."""
        if me > GREATEST_KEEPER:
            return OUT_OF_RANGE
        self.me = me
        self.stamp = (0, 0)
        self.value = 0
        return 0

    def qk_heard(self, question):
        """Do what a question's 24 bytes ask; answers a list: a number, then the answer's bytes."""
        heard = right_message(question)
        if heard is None or not is_question(heard):
            return [WRONG_MESSAGE]
        if heard.kind == ASK:
            answer = Message(HOLDS, heard.client, self.me, heard.operation, self.stamp, self.value)
        else:
            self.hold(heard.stamp, heard.value)
            answer = Message(IS_HELD, heard.client, self.me, heard.operation, (0, 0), 0)
        return [0] + bytes_of(answer)

    def hold(self, stamp, value):
        """Hold a value from now on, if its stamp is greater than that of what is held."""
        if stamp > self.stamp:
            self.stamp = stamp
            self.value = value
