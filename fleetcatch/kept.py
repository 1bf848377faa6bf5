"""What's kept of a ship: its 2,056 bytes, and when they are right."""

from fleetcatch.constants import KINDS, MOST_OUT, MOST_SHIPS, UNIT_LIMIT
from fleetcatch.gift import Gift
from fleetcatch.octets import all_low_first, check_is_right, number_at, numbers_at, with_check
from fleetcatch.ship import Ship, can_start

# Where each part begins among the bytes.
ME_AT = 0
SHIPS_AT = 1
COUNT_AT = 2
ZERO_AT = 3
RIGHT_AT = 4
CAUGHT_AT = 68
GIVEN_AT = 132
TAKEN_AT = 196
GIFTS_AT = 260
KNOWN_AT = 1028

# How many bytes there are of one gift, and of what one ship is known to have caught.
GIFT_SIZE = 12
KNOWN_SIZE = 64


def kept_octets(ship):
    octets = [ship.me, ship.ships, len(ship.out), 0]
    octets.extend(all_low_first(ship.right, 8))
    octets.extend(all_low_first(ship.caught, 8))
    octets.extend(all_low_first(ship.given, 4))
    octets.extend(all_low_first(ship.taken, 4))
    for gift in ship.out:
        octets.extend(gift_octets(gift))
    octets.extend([0] * (KNOWN_AT - len(octets)))
    for caught in ship.known:
        octets.extend(all_low_first(caught, 8))
    return with_check(octets)


def gift_octets(gift):
    return [gift.to, gift.kind, 0, 0] + all_low_first([gift.number, gift.units], 4)


def read_ship(octets):
    ship = Ship(octets[ME_AT], octets[SHIPS_AT], numbers_at(octets, RIGHT_AT, KINDS, 8))
    ship.caught = numbers_at(octets, CAUGHT_AT, KINDS, 8)
    ship.given = numbers_at(octets, GIVEN_AT, MOST_SHIPS, 4)
    ship.taken = numbers_at(octets, TAKEN_AT, MOST_SHIPS, 4)
    ship.out = [read_kept_gift(octets, gift_at(place)) for place in range(octets[COUNT_AT])]
    ship.known = [numbers_at(octets, KNOWN_AT + KNOWN_SIZE * other, KINDS, 8) for other in range(MOST_SHIPS)]
    ship.saved = True
    return ship


def gift_at(place):
    return GIFTS_AT + GIFT_SIZE * place


def read_kept_gift(octets, at):
    return Gift(octets[at], octets[at + 1], number_at(octets, at + 4, 4), number_at(octets, at + 8, 4))


# More gifts than there is room for could not even be read, so how many there are comes ahead of the ship.
def kept_is_right(octets):
    if not check_is_right(octets) or octets[COUNT_AT] > MOST_OUT:
        return False
    return zeros_are_right(octets) and ship_is_right(read_ship(octets))


def zeros_are_right(octets):
    count = octets[COUNT_AT]
    if octets[ZERO_AT] != 0 or any(octets[gift_at(count):KNOWN_AT]):
        return False
    return not any([any(octets[gift_at(place) + 2:gift_at(place) + 4]) for place in range(count)])


def ship_is_right(ship):
    if not can_start(ship.me, ship.ships, ship.right) or max(ship.caught) >= UNIT_LIMIT:
        return False
    if any([max(caught) >= UNIT_LIMIT for caught in ship.known]):
        return False
    return all([ship.is_other(gift.to) and gift.kind < KINDS and gift.units > 0 for gift in ship.out])
