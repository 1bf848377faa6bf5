"""What a ship says to another, and its 84 bytes."""

from fleetcatch.constants import KINDS, MOST_SHIPS, UNIT_LIMIT
from fleetcatch.gift import Gift
from fleetcatch.octets import all_low_first, check_is_right, number_at, numbers_at, with_check

# The kind that stands in the bytes where there is no gift.
NO_GIFT = 255

# Where each part begins among the bytes.
SENDER_AT = 0
RECEIVER_AT = 1
KIND_AT = 2
ZERO_AT = 3
TOOK_AT = 4
NUMBER_AT = 8
UNITS_AT = 12
CAUGHT_AT = 16


# The gift is None where there is none.
class Message:
    def __init__(self, sender, receiver, took, gift, caught):
        self.sender = sender
        self.receiver = receiver
        self.took = took
        self.gift = gift
        self.caught = caught


def message_octets(message):
    gift = message.gift
    if gift is None:
        gift = Gift(message.receiver, NO_GIFT, 0, 0)
    octets = [message.sender, message.receiver, gift.kind, 0]
    octets.extend(all_low_first([message.took, gift.number, gift.units], 4))
    octets.extend(all_low_first(message.caught, 8))
    return with_check(octets)


def read_message(octets):
    took = number_at(octets, TOOK_AT, 4)
    return Message(octets[SENDER_AT], octets[RECEIVER_AT], took, read_gift(octets), read_caught(octets))


def read_gift(octets):
    if octets[KIND_AT] == NO_GIFT:
        return None
    number = number_at(octets, NUMBER_AT, 4)
    return Gift(octets[RECEIVER_AT], octets[KIND_AT], number, number_at(octets, UNITS_AT, 4))


def read_caught(octets):
    return numbers_at(octets, CAUGHT_AT, KINDS, 8)


def message_is_right(octets):
    if not check_is_right(octets):
        return False
    if octets[SENDER_AT] >= MOST_SHIPS or octets[RECEIVER_AT] >= MOST_SHIPS or octets[ZERO_AT] != 0:
        return False
    return gift_is_right(octets) and max(read_caught(octets)) < UNIT_LIMIT


def gift_is_right(octets):
    kind = octets[KIND_AT]
    units = number_at(octets, UNITS_AT, 4)
    if kind == NO_GIFT:
        return units == 0 and number_at(octets, NUMBER_AT, 4) == 0
    return kind < KINDS and units > 0
