"""Calls on the ships that are objects, laid one behind another in one list, and their answers."""

from fleetcatch.constants import NOT_RIGHT, NOT_VALID
from fleetcatch.kept import kept_is_right, kept_octets, read_ship
from fleetcatch.ship import Ship, can_start

OBJECTS = 4

# The call that's none of these is fc_save, 7.
FC_START = 0
FC_HAUL = 1
FC_GIVE = 2
FC_SAY = 3
FC_HEARD = 4
FC_OF = 5
FC_STATE = 6
FC_LOAD = 8

# By the number of the call: how many whole numbers it has, its object among them, and whether a row follows.
WHOLE_NUMBERS = (3, 1, 4, 2, 1, 2, 2, 1, 1)
HAS_ROW = (True, True, False, False, True, False, False, False, True)


def answers(calls):
    objects = [None] * OBJECTS
    answered = []
    at = 0
    while at < len(calls):
        call = calls[at]
        row_at = at + 1 + WHOLE_NUMBERS[call]
        end = end_of_call(calls, call, row_at)
        answer = answer_to(objects, call, calls[at + 1:row_at], calls[row_at + 1:end])
        answered.append(len(answer))
        answered.extend(answer)
        at = end
    return answered


def end_of_call(calls, call, row_at):
    if HAS_ROW[call]:
        return row_at + 1 + calls[row_at]
    return row_at


def answer_to(objects, call, numbers, row):
    if call == FC_START:
        return [start(objects, numbers, row)]
    if call == FC_LOAD:
        return [load(objects, numbers, row)]
    return answer_of(objects[numbers[0]], call, numbers, row)


def answer_of(ship, call, numbers, row):
    if call == FC_HAUL:
        return [ship.haul(row)]
    if call == FC_GIVE:
        return [ship.give(numbers[1], numbers[2], numbers[3])]
    if call == FC_SAY:
        return ship.say(numbers[1])
    if call == FC_HEARD:
        return [ship.heard(row)]
    if call == FC_OF:
        return ship.of(numbers[1])
    if call == FC_STATE:
        return ship.state(numbers[1])
    return save(ship)


# A refused start leaves the ship that was there before.
def start(objects, numbers, right):
    if not can_start(numbers[1], numbers[2], right):
        return NOT_VALID
    objects[numbers[0]] = Ship(numbers[1], numbers[2], right)
    return 0


def save(ship):
    ship.saved = True
    return [0] + kept_octets(ship)


# A refused load leaves the ship that was there before, as a refused start does.
def load(objects, numbers, octets):
    if not kept_is_right(octets):
        return NOT_RIGHT
    objects[numbers[0]] = read_ship(octets)
    return 0
