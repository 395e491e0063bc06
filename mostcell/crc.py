"""CRC-32C, the check at the end of a message."""

POLYNOMIAL = 0x82F63B78
ALL_ONES = 0xFFFFFFFF


def crc32c(row):
    """The CRC-32C of a list of bytes, taken from the low bit on."""
    rest = ALL_ONES
    for byte in row:
        rest = eight_steps(rest ^ byte)
    return rest ^ ALL_ONES


def eight_steps(rest):
    """What is left of `rest` when its eight lowest bits have gone out."""
    for step in range(8):
        if rest & 1:
            rest = (rest >> 1) ^ POLYNOMIAL
        else:
            rest = rest >> 1
    return rest
