"""A reading or a writing, from its beginning to its end."""

from mostcell.message import ASK, GREATEST_NUMBER, TELL

# Stands in the place of a question's kind.
NOTHING = 0


class Operation:
    """It first asks all keepers what they hold, then tells them all to hold something."""

    def __init__(self, client, own_value):
        """Begin a writing of a client's own value, or a reading if that is None."""
        self.client = client
        self.own_value = own_value
        self.asking = ASK
        self.answered = []
        # A keeper that holds nothing yet holds just this, so it is a fair beginning for the greatest.
        self.stamp = (0, 0)
        self.value = 0
        self.is_done = False

    def goes_on(self):
        """Whether it asks or tells something now."""
        return self.asking != NOTHING

    def awaits(self, kind, keeper):
        """Whether, of one that goes on, an answer of this kind from this keeper is still to come."""
        return kind == self.asking + 1 and keeper not in self.answered

    def keep(self, answer):
        """Keep an answer that was awaited."""
        self.answered.append(answer.keeper)
        if self.asking == ASK and answer.stamp > self.stamp:
            self.stamp = answer.stamp
            self.value = answer.value

    def go_on_from_most(self):
        """Go on, now that most have answered what is asked."""
        self.answered = []
        if self.asking == TELL:
            self.asking = NOTHING
            self.is_done = True
        elif self.own_value is None:
            self.asking = TELL
        else:
            self.tell_own_value()

    def tell_own_value(self):
        """Tell a writing's value, or be over without it if no number is left for its stamp."""
        if self.stamp[0] == GREATEST_NUMBER:
            self.asking = NOTHING
            return
        self.stamp = (self.stamp[0] + 1, self.client)
        self.value = self.own_value
        self.asking = TELL
