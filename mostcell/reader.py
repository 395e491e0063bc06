"""A list of calls, read number by number."""


class Reader:
    """Stands at one place of a list, which it leaves as it is, and goes on from there."""

    def __init__(self, calls):
        self.calls = calls
        self.at = 0

    def has_more(self):
        """Whether anything stands from here on."""
        return self.at < len(self.calls)

    def take_number(self):
        """The number that stands here."""
        taken = self.calls[self.at]
        self.at += 1
        return taken

    def take_row(self):
        """A copy of the row that stands here, behind how many numbers it has."""
        length = self.take_number()
        begin = self.at
        self.at += length
        return self.calls[begin:self.at]
