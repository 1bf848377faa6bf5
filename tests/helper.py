"""What the tests share: calls as lists, bytes made on another way than the program's, and ships to look into."""

import struct

from fleetcatch.fleet import answers
from fleetcatch.ship import Ship

LIMIT = 2 ** 48
GREATEST_WORD = 2 ** 32 - 1
GREATEST_LONG = 2 ** 64 - 1
NO_GIFT = 255
CRC_AT = 80
KEPT_SIZE = 2056
KEPT_CRC_AT = 2052
GIFTS_AT = 260
KNOWN_AT = 1028


def kinds(units=0, **others):
    """Eight numbers: units each, but k3=7 puts 7 at kind 3."""
    return [others.get(f"k{kind}", units) for kind in range(8)]


def fc_start(number, me, ships, right):
    return [0, number, me, ships, len(right), *right]


def fc_haul(number, units):
    return [1, number, len(units), *units]


def fc_give(number, to, kind, units):
    return [2, number, to, kind, units]


def fc_say(number, to):
    return [3, number, to]


def fc_heard(number, octets):
    return [4, number, len(octets), *octets]


def fc_of(number, ship):
    return [5, number, ship]


def fc_state(number, kind):
    return [6, number, kind]


def fc_save(number):
    return [7, number]


def fc_load(number, octets):
    return [8, number, len(octets), *octets]


def split_answers(answered):
    rows = []
    at = 0
    while at < len(answered):
        end = at + 1 + answered[at]
        if answered[at] < 1 or end > len(answered):
            raise AssertionError(f"no count at {at} of {answered}")
        rows.append(answered[at + 1:end])
        at = end
    return rows


def ask(*calls):
    """The answers to the calls, a list each."""
    return split_answers(answers([number for call in calls for number in call]))


def firsts(*calls):
    """The first number of each answer."""
    return [answer[0] for answer in ask(*calls)]


def long_division(value, bits):
    """What's left of a polynomial of so many bits behind its division by that of CRC-32C."""
    for place in range(bits - 1, 31, -1):
        if value >> place & 1:
            value ^= 0x11EDC6F41 << (place - 32)
    return value


def turned(value, bits):
    return int(f"{value:0{bits}b}"[::-1], 2)


TURNED = [turned(octet, 8) for octet in range(256)]
RESTS = [long_division(octet << 32, 40) for octet in range(256)]


def polynomial_rest(octets):
    """CRC-32C as a long division, high bit first: another way than the program's."""
    rest = GREATEST_WORD
    for octet in octets:
        rest = (rest << 8 & GREATEST_WORD) ^ RESTS[rest >> 24 ^ TURNED[octet]]
    return turned(rest ^ GREATEST_WORD, 32)


def checked(octets):
    return list(octets) + list(struct.pack("<I", polynomial_rest(octets)))


def letter(sender, receiver, took=0, gift=None, caught=None, fourth=0):
    """The bytes of a message; gift is kind, number, units as they are to stand there."""
    kind, number, units = gift or (NO_GIFT, 0, 0)
    return checked(struct.pack("<4B3I8Q", sender, receiver, kind, fourth, took, number, units, *(caught or kinds())))


def kept(me=0, ships=3, gifts=(), fourth=0, count=None, **rows):
    """The bytes of what's kept. A gift is ship, kind, number, units; given, taken and known are dicts by the ship."""
    octets = struct.pack("<4B", me, ships, len(gifts) if count is None else count, fourth)
    octets += struct.pack("<16Q", *rows.get("right", kinds()), *rows.get("caught", kinds()))
    for name in ("given", "taken"):
        octets += struct.pack("<16I", *[rows.get(name, {}).get(ship, 0) for ship in range(16)])
    room = b"".join(struct.pack("<4B2I", ship, kind, 0, 0, number, units) for ship, kind, number, units in gifts)
    octets += room.ljust(KNOWN_AT - GIFTS_AT, b"\0")
    for ship in range(16):
        octets += struct.pack("<8Q", *rows.get("known", {}).get(ship, kinds()))
    return checked(octets)


def with_octet(octets, at, octet):
    """What's kept with another byte in one place, and its check made right again."""
    return checked(octets[:at] + [octet] + octets[at + 1:KEPT_CRC_AT])


def read_kept(octets):
    """The parts of what's kept, as picture names them."""
    plain = bytes(octets)
    me, ships, count = plain[:3]
    known = struct.unpack_from("<128Q", plain, KNOWN_AT)
    return {
        "me": me,
        "ships": ships,
        "right": list(struct.unpack_from("<8Q", plain, 4)),
        "caught": list(struct.unpack_from("<8Q", plain, 68)),
        "out": [struct.unpack_from("<2B2x2I", plain, GIFTS_AT + 12 * place) for place in range(count)],
        "given": list(struct.unpack_from("<16I", plain, 132)),
        "taken": list(struct.unpack_from("<16I", plain, 196)),
        "known": [list(known[8 * ship:8 * ship + 8]) for ship in range(16)],
    }


def busy_calls(number=0):
    """Ship 1 of 3, which hauled, gave, took and heard; what's kept of it is busy_kept."""
    return [
        fc_start(number, 1, 3, [100, 200, 300, 400, 500, 600, 700, 800]),
        fc_haul(number, [1, 2, 3, 4, 5, 6, 7, 8]),
        fc_give(number, 0, 2, 20),
        fc_give(number, 2, 2, 30),
        fc_give(number, 0, 7, 40),
        fc_give(number, 2, 0, 50),
        fc_heard(number, letter(0, 1, gift=(5, 0, 1000), caught=kinds(11, k2=0))),
        fc_heard(number, letter(0, 1, gift=(6, 1, 2000), caught=kinds(10, k2=12))),
        fc_heard(number, letter(2, 1, took=1, caught=kinds(21))),
    ]


BUSY_ANSWERS = [0, 0, 0, 0, 1, 1, 1, 1, 0]


def busy_kept():
    return kept(
        me=1,
        ships=3,
        right=[49, 198, 247, 396, 495, 1594, 2693, 752],
        caught=[1, 2, 3, 4, 5, 6, 7, 8],
        given={0: 2, 2: 2},
        taken={0: 2},
        gifts=[(0, 2, 0, 20), (0, 7, 1, 40), (2, 0, 1, 50)],
        known={0: kinds(11, k2=12), 2: kinds(21)},
    )


def a_ship(me=0, ships=3, right=1000, saved=False):
    ship = Ship(me, ships, kinds(right) if isinstance(right, int) else right)
    ship.saved = saved
    return ship


def gifts_out(ship):
    return [(gift.to, gift.kind, gift.number, gift.units) for gift in ship.out]


def picture(ship):
    """All that a ship has, to be compared with what it has later."""
    return {
        "me": ship.me,
        "ships": ship.ships,
        "right": list(ship.right),
        "caught": list(ship.caught),
        "out": gifts_out(ship),
        "given": list(ship.given),
        "taken": list(ship.taken),
        "known": [list(row) for row in ship.known],
        "saved": ship.saved,
    }


def changed(before, **parts):
    """The picture with some parts otherwise."""
    return {**before, **parts}
