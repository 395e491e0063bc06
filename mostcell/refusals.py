"""The numbers below 0 that a call answers when it refuses."""

GOES_ON = -16
OUT_OF_RANGE = -22
USED_UP = -28
WRONG_MESSAGE = -71
