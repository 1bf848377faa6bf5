"""Calls on the ships that are objects, laid one behind another in one list, and their answers."""

from fleetcatch.constants import NOT_VALID
from fleetcatch.ship import Ship, can_start

OBJECTS = 4

# The call that's none of these is fc_heard, 4.
FC_START = 0
FC_HAUL = 1
FC_GIVE = 2
FC_SAY = 3

# By the number of the call: how many whole numbers it has, its object among them, and whether a row follows.
WHOLE_NUMBERS = (3, 1, 4, 2, 1)
HAS_ROW = (True, True, False, False, True)


def answers(calls):
    objects = [None] * OBJECTS
    answered = []
    at = 0
    while at < len(calls):
        call = calls[at]
        row_at = at + 1 + WHOLE_NUMBERS[call]
        end = end_of_call(calls, call, row_at)
        answer = answer_to(objects, call, calls[at + 1:row_at], calls[row_at + 1:end])
        answered.append(len(answer))
        answered.extend(answer)
        at = end
    return answered


def end_of_call(calls, call, row_at):
    if HAS_ROW[call]:
        return row_at + 1 + calls[row_at]
    return row_at


def answer_to(objects, call, numbers, row):
    if call == FC_START:
        return [start(objects, numbers, row)]
    ship = objects[numbers[0]]
    if call == FC_HAUL:
        return [ship.haul(row)]
    if call == FC_GIVE:
        return [ship.give(numbers[1], numbers[2], numbers[3])]
    if call == FC_SAY:
        return ship.say(numbers[1])
    return [ship.heard(row)]


# A refused start leaves the ship that was there before.
def start(objects, numbers, right):
    if not can_start(numbers[1], numbers[2], right):
        return NOT_VALID
    objects[numbers[0]] = Ship(numbers[1], numbers[2], right)
    return 0
