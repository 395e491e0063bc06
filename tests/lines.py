"""What the tests build calls and messages with. Nothing here is drawn from the program's own helpers."""

from mostcell.cell import answers

GREATEST_4 = 2**32 - 1
GREATEST_8 = 2**64 - 1


def check_of(row):
    """CRC-32C by long division over the whole row as one number, so another way than the program's."""
    turned = [int(f"{byte:08b}"[::-1], 2) for byte in row]
    bits = int.from_bytes(bytes(turned), "big") << 32
    length = 8 * len(row) + 32
    bits ^= GREATEST_4 << (length - 32)
    for place in range(length - 1, 31, -1):
        if bits >> place & 1:
            bits ^= 0x11EDC6F41 << (place - 32)
    return int(f"{bits:032b}"[::-1], 2) ^ GREATEST_4


def message(kind, client=0, keeper=0, stamp_client=0, operation=1, number=0, value=0):
    """The 24 bytes of a message, right or wrong, with a check that fits."""
    row = [kind, client, keeper, stamp_client]
    row += operation.to_bytes(4, "little") + number.to_bytes(4, "little") + value.to_bytes(8, "little")
    return row + list(check_of(row).to_bytes(4, "little"))


def ask(client=0, operation=1):
    return message(1, client, operation=operation)


def tell(number, stamp_client, value, client=0, operation=1):
    return message(3, client, 0, stamp_client, operation, number, value)


def holds(keeper, number=0, stamp_client=0, value=0, client=0, operation=1):
    return message(2, client, keeper, stamp_client, operation, number, value)


def is_held(keeper, client=0, operation=1):
    return message(4, client, keeper, operation=operation)


def qk_start(keeper, me):
    return [0, keeper, me]


def qk_heard(keeper, question):
    return [1, keeper, len(question)] + question


def qc_start(client, me, keepers):
    return [2, client, me, keepers]


def qc_read(client):
    return [3, client]


def qc_write(client, value):
    return [4, client, value]


def qc_say(client):
    return [5, client]


def qc_heard(client, answer):
    return [6, client, len(answer)] + answer


def qc_done(client):
    return [7, client]


def asked_most(client, me, keepers, operation=1, stamp=(0, 0), value=0):
    """The calls by which most answer the client that they hold this; those of the keepers 0, 1 and so on."""
    return [qc_heard(client, holds(keeper, *stamp, value, me, operation)) for keeper in range(keepers // 2 + 1)]


def told_most(client, me, keepers, operation=1):
    """The calls by which most answer the client that it's held."""
    return [qc_heard(client, is_held(keeper, me, operation)) for keeper in range(keepers // 2 + 1)]


def flat(calls):
    return [number for call in calls for number in call]


def answered(*calls):
    """What each call answers, a list for each, by the counts that stand in what is given back."""
    given = answers(flat(calls))
    parts = []
    at = 0
    while at < len(given) and given[at] > 0:
        parts.append(given[at + 1:at + 1 + given[at]])
        at += 1 + given[at]
    if at != len(given) or len(parts) != len(calls):
        raise AssertionError(f"{len(parts)} answers for {len(calls)} calls, or a count is wrong: {given}")
    return parts
