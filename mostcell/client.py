"""A client: who it is, how many keepers there are, and its operations."""

from mostcell.message import ASK, GREATEST_CLIENT
from mostcell.refusals import GOES_ON, OUT_OF_RANGE, USED_UP

GREATEST_COUNT_OF_KEEPERS = 15
GREATEST_OPERATION = 0xFFFFFFFF

# Stands in the place of a question's kind.
NOTHING = 0


class Client:
    """One that reads and writes the cell. It is asked nothing before its start answers 0."""

    def __init__(self):
        self.me = 0
        self.keepers = 0
        self.begun = 0
        self.asking = NOTHING

    def qc_start(self, me, keepers):
        """Begin as the client `me` of so many keepers, with no operation; answers a number."""
        if me > GREATEST_CLIENT or not 1 <= keepers <= GREATEST_COUNT_OF_KEEPERS:
            return OUT_OF_RANGE
        self.me = me
        self.keepers = keepers
        self.begun = 0
        self.asking = NOTHING
        return 0

    def qc_read(self):
        """Begin a reading; answers a number."""
        return self.begin()

    def begin(self):
        """Begin an operation: it asks all keepers what they hold; answers a number."""
        if self.asking != NOTHING:
            return GOES_ON
        if self.begun == GREATEST_OPERATION:
            return USED_UP
        self.begun += 1
        self.asking = ASK
        return 0
