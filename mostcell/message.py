"""The 24 bytes of a message: what they tell, and when they are right."""

from mostcell.crc import crc32c

ASK = 1
HOLDS = 2
TELL = 3
IS_HELD = 4

GREATEST_CLIENT = 15
GREATEST_KEEPER = 14
GREATEST_NUMBER = 0xFFFFFFFF
CHECK_AT = 20


class Message:
    """What a message tells. A stamp is a number and a client, so tuples compare as stamps do."""

    def __init__(self, kind, client, keeper, operation, stamp, value):
        self.kind = kind
        self.client = client
        self.keeper = keeper
        self.operation = operation
        self.stamp = stamp
        self.value = value


def bytes_of(message):
    """The 24 bytes of a message."""
    row = [message.kind, message.client, message.keeper, message.stamp[1]]
    row.extend(low_first(message.operation, 4))
    row.extend(low_first(message.stamp[0], 4))
    row.extend(low_first(message.value, 8))
    row.extend(low_first(crc32c(row), 4))
    return row


def right_message(row):
    """The message that 24 bytes are, or None if they are not right."""
    if number_at(row, CHECK_AT, 4) != crc32c(row[:CHECK_AT]):
        return None
    stamp = (number_at(row, 8, 4), row[3])
    message = Message(row[0], row[1], row[2], number_at(row, 4, 4), stamp, number_at(row, 12, 8))
    if is_within_bounds(message) and has_its_zeros(message):
        return message
    return None


def is_question(message):
    """Whether a message asks a keeper for something, not answers a client."""
    return message.kind in (ASK, TELL)


def is_within_bounds(message):
    """Whether the kind, the clients, the keeper and the operation are such as there are."""
    return (
        ASK <= message.kind <= IS_HELD
        and message.client <= GREATEST_CLIENT
        and message.stamp[1] <= GREATEST_CLIENT
        and message.keeper <= GREATEST_KEEPER
        and message.operation != 0
    )


def has_its_zeros(message):
    """Whether all is 0 that has to be 0 in a message of this kind, with this number."""
    if is_question(message) and message.keeper != 0:
        return False
    if message.kind in (ASK, IS_HELD) or message.stamp[0] == 0:
        return message.stamp == (0, 0) and message.value == 0
    return True


def number_at(row, at, size):
    """The number that the `size` bytes from `at` on are, the low byte first."""
    number = 0
    for place in range(size):
        number += row[at + place] << (8 * place)
    return number


def low_first(number, size):
    """A number as `size` bytes, the low byte first."""
    return [(number >> (8 * place)) & 255 for place in range(size)]
