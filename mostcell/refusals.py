"""The numbers below 0 that a call answers when it refuses."""

NOT_NOW = -11
GOES_ON = -16
OUT_OF_RANGE = -22
USED_UP = -28
WRONG_MESSAGE = -71
COULD_NOT_BE_DONE = -75
