"""The sizes that the document sets, and the numbers of its refusals."""

KINDS = 8
FEWEST_SHIPS = 2
MOST_SHIPS = 16
MOST_OUT = 64

# 2^48: every right, catch and known catch stays below it.
UNIT_LIMIT = 0x1000000000000

# 2^32 - 1: a count of gifts has four bytes in a message.
MOST_GIFTS = 0xFFFFFFFF

# 2^31: an answer has a sign, so that the number of a gift does not always fit.
ANSWER_LIMIT = 0x80000000

NOT_SAVED = -16
NOT_VALID = -22
NOT_ENOUGH = -28
NOT_RIGHT = -71
TOO_MUCH = -75
