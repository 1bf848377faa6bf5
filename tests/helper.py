"""What the tests share: calls as lists, messages made on another way than the program's, and ships to look into."""

import struct

from fleetcatch.fleet import answers
from fleetcatch.ship import Ship

LIMIT = 2 ** 48
GREATEST_WORD = 2 ** 32 - 1
GREATEST_LONG = 2 ** 64 - 1
NO_GIFT = 255
CRC_AT = 80


def kinds(units=0, **others):
    """Eight numbers: units each, but k3=7 puts 7 at kind 3."""
    return [others.get(f"k{kind}", units) for kind in range(8)]


def fc_start(number, me, ships, right):
    return [0, number, me, ships, len(right), *right]


def fc_haul(number, units):
    return [1, number, len(units), *units]


def fc_give(number, to, kind, units):
    return [2, number, to, kind, units]


def fc_say(number, to):
    return [3, number, to]


def fc_heard(number, octets):
    return [4, number, len(octets), *octets]


def split_answers(answered):
    rows = []
    at = 0
    while at < len(answered):
        end = at + 1 + answered[at]
        if answered[at] < 1 or end > len(answered):
            raise AssertionError(f"no count at {at} of {answered}")
        rows.append(answered[at + 1:end])
        at = end
    return rows


def ask(*calls):
    """The answers to the calls, a list each."""
    return split_answers(answers([number for call in calls for number in call]))


def firsts(*calls):
    """The first number of each answer."""
    return [answer[0] for answer in ask(*calls)]


def polynomial_rest(octets):
    """CRC-32C as a long division, high bit first: another way than the program's."""
    bits = [(octet >> place) & 1 for octet in octets for place in range(8)] + [0] * 32
    for place in range(32):
        bits[place] ^= 1
    divisor = [1] + [(0x1EDC6F41 >> place) & 1 for place in range(31, -1, -1)]
    for at in range(len(bits) - 32):
        if bits[at]:
            for place in range(33):
                bits[at + place] ^= divisor[place]
    return sum(1 << place for place, bit in enumerate(bits[-32:]) if not bit)


def checked(octets):
    return list(octets) + list(struct.pack("<I", polynomial_rest(octets)))


def letter(sender, receiver, took=0, gift=None, caught=None, fourth=0):
    """The bytes of a message; gift is kind, number, units as they are to stand there."""
    kind, number, units = gift or (NO_GIFT, 0, 0)
    return checked(struct.pack("<4B3I8Q", sender, receiver, kind, fourth, took, number, units, *(caught or kinds())))


def a_ship(me=0, ships=3, right=1000, saved=False):
    ship = Ship(me, ships, kinds(right) if isinstance(right, int) else right)
    ship.saved = saved
    return ship


def gifts_out(ship):
    return [(gift.to, gift.kind, gift.number, gift.units) for gift in ship.out]


def picture(ship):
    """All that a ship has, to be compared with what it has later."""
    return {
        "me": ship.me,
        "ships": ship.ships,
        "right": list(ship.right),
        "caught": list(ship.caught),
        "out": gifts_out(ship),
        "given": list(ship.given),
        "taken": list(ship.taken),
        "known": [list(row) for row in ship.known],
        "saved": ship.saved,
    }


def changed(before, **parts):
    """The picture with some parts otherwise."""
    return {**before, **parts}
