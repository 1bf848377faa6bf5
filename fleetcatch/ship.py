"""A ship: what it may still catch, caught, gave and took, and what it knows of the others."""

from fleetcatch.constants import ANSWER_LIMIT, FEWEST_SHIPS, KINDS, MOST_GIFTS, MOST_OUT, MOST_SHIPS, UNIT_LIMIT
from fleetcatch.constants import NOT_ENOUGH, NOT_RIGHT, NOT_SAVED, NOT_VALID, TOO_MUCH
from fleetcatch.gift import Gift
from fleetcatch.message import Message, message_is_right, message_octets, read_message


def can_start(me, ships, right):
    return FEWEST_SHIPS <= ships and ships <= MOST_SHIPS and me < ships and max(right) < UNIT_LIMIT


class Ship:
    def __init__(self, me, ships, right):
        self.me = me
        self.ships = ships
        self.right = list(right)
        self.caught = [0] * KINDS
        self.out = []
        # Sixteen of each, however many ships there are: what's kept has all of them, and a loaded ship keeps them so.
        self.given = [0] * MOST_SHIPS
        self.taken = [0] * MOST_SHIPS
        self.known = [[0] * KINDS for ship in range(MOST_SHIPS)]
        self.saved = False

    def is_other(self, ship):
        return ship < self.ships and ship != self.me

    def haul(self, units):
        if any([units[kind] > self.right[kind] for kind in range(KINDS)]):
            return NOT_ENOUGH
        if any([self.caught[kind] + units[kind] >= UNIT_LIMIT for kind in range(KINDS)]):
            return TOO_MUCH
        for kind in range(KINDS):
            self.right[kind] = self.right[kind] - units[kind]
            self.caught[kind] = self.caught[kind] + units[kind]
        self.saved = False
        return 0

    def give(self, to, kind, units):
        if not self.is_other(to) or kind >= KINDS or units == 0:
            return NOT_VALID
        number = self.given[to]
        if self.right[kind] < units or len(self.out) >= MOST_OUT or number >= MOST_GIFTS:
            return NOT_ENOUGH
        self.right[kind] = self.right[kind] - units
        self.given[to] = number + 1
        self.out.append(Gift(to, kind, number, units))
        self.saved = False
        return number % ANSWER_LIMIT

    def say(self, to):
        if not self.is_other(to):
            return [NOT_VALID]
        # A ship that lost power goes on from what it kept, so it says nothing that it could forget.
        if not self.saved:
            return [NOT_SAVED]
        message = Message(self.me, to, self.taken[to], self.oldest_out(to), self.caught)
        return [0] + message_octets(message)

    def oldest_out(self, to):
        for gift in self.out:
            if gift.to == to:
                return gift
        return None

    def heard(self, octets):
        if not message_is_right(octets):
            return NOT_RIGHT
        message = read_message(octets)
        if message.receiver != self.me or not self.is_other(message.sender):
            return NOT_RIGHT
        self.drop_taken(message.sender, message.took)
        self.learn(message.sender, message.caught)
        if message.gift is None or not self.can_take(message.sender, message.gift):
            return 0
        self.take(message.sender, message.gift)
        return 1

    def drop_taken(self, ship, took):
        self.out = [gift for gift in self.out if gift.to != ship or gift.number >= took]

    # Messages come late, so the greater number is the newer one.
    def learn(self, ship, caught):
        known = self.known[ship]
        self.known[ship] = [max(known[kind], caught[kind]) for kind in range(KINDS)]

    # Only the next number is taken, so a message that comes again, or too early, gives nothing.
    def can_take(self, ship, gift):
        taken = self.taken[ship]
        return gift.number == taken and taken < MOST_GIFTS and self.right[gift.kind] + gift.units < UNIT_LIMIT

    def take(self, ship, gift):
        self.right[gift.kind] = self.right[gift.kind] + gift.units
        self.taken[ship] = self.taken[ship] + 1
        self.saved = False

    def of(self, ship):
        if ship >= self.ships:
            return [NOT_VALID]
        return [0] + self.known_of(ship)

    # What stands in known for this ship itself tells nothing.
    def known_of(self, ship):
        if ship == self.me:
            return self.caught
        return self.known[ship]

    def state(self, kind):
        if kind >= KINDS:
            return [NOT_VALID]
        units_out = sum([gift.units for gift in self.out if gift.kind == kind])
        fleet_caught = sum([self.known_of(ship)[kind] for ship in range(self.ships)])
        return [0, self.right[kind], self.caught[kind], units_out, fleet_caught]
