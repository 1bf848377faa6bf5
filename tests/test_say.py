"""Promise 4: fc_say, and the bytes of a message."""

import unittest

from fleetcatch.octets import crc32c, low_first, number_at
from tests.helper import CRC_AT, GREATEST_WORD, LIMIT
from tests.helper import a_ship, ask, fc_give, fc_say, fc_start, kinds, letter, picture, polynomial_rest

READ_COMMAND = [0x01, 0xC0] + [0] * 14 + [0x14, 0, 0, 0, 0, 0, 4, 0, 0, 0, 0, 0x14, 0, 0, 0, 0x18, 0x28] + [0] * 7
READ_COMMAND += [0x02] + [0] * 7

# Bytes, and what others have published as their CRC-32C (RFC 3720 among them).
KNOWN_CHECKS = (
    ([], 0x00000000),
    (list(b"a"), 0xC1D04330),
    (list(b"123456789"), 0xE3069283),
    ([0] * 32, 0x8A9136AA),
    ([255] * 32, 0x62A8AB43),
    (list(range(32)), 0x46DD794E),
    (list(range(31, -1, -1)), 0x113FDB5C),
    (READ_COMMAND, 0xD9963A56),
)


# The checks of the two messages that are written out below, as a processor's own CRC-32C step gives them.
NEW_CHECK = [0x6C, 0xA7, 0x3C, 0xA8]
FULL_CHECK = [0x41, 0x0C, 0x03, 0x6F]


class Checks(unittest.TestCase):
    def test_known_values(self):
        for octets, check in KNOWN_CHECKS:
            with self.subTest(octets=octets):
                self.assertEqual(crc32c(octets), check)
                self.assertEqual(polynomial_rest(octets), check)

    def test_low_byte_first(self):
        self.assertEqual(low_first(0x01020304, 4), [4, 3, 2, 1])
        self.assertEqual(low_first(LIMIT - 1, 8), [255] * 6 + [0, 0])
        self.assertEqual(number_at([9, 4, 3, 2, 1, 9], 1, 4), 0x01020304)


class SayRefusals(unittest.TestCase):
    def test_to_is_another_ship(self):
        for to in (3, 4, 1, 16, GREATEST_WORD):
            ship = a_ship(me=1, ships=3, saved=True)
            before = picture(ship)
            with self.subTest(to=to):
                self.assertEqual(ship.say(to), [-22])
                self.assertEqual(picture(ship), before)
                self.assertEqual(ask(fc_start(0, 1, 3, kinds(5)), fc_say(0, to)), [[0], [-22]])

    def test_a_ship_that_is_not_saved(self):
        ship = a_ship(me=1, ships=3)
        before = picture(ship)
        for to in (0, 2):
            self.assertEqual(ship.say(to), [-16])
        self.assertEqual(picture(ship), before)
        self.assertEqual(
            ask(fc_start(0, 1, 3, kinds(5)), fc_say(0, 0), fc_give(0, 2, 0, 1), fc_say(0, 2)),
            [[0], [-16], [0], [-16]],
        )

    def test_not_valid_comes_ahead_of_not_saved(self):
        self.assertEqual(a_ship(me=1, ships=3).say(1), [-22])
        self.assertEqual(a_ship(me=1, ships=3).say(3), [-22])


class SayMessages(unittest.TestCase):
    def test_a_new_ship_byte_by_byte(self):
        octets = [1, 2, 255, 0] + [0] * 76
        self.assertEqual(a_ship(me=1, ships=3, saved=True).say(2), [0] + octets + NEW_CHECK)

    def test_each_part_byte_by_byte(self):
        ship = a_ship(me=15, ships=16, right=LIMIT - 1)
        ship.taken[3] = 0x04030201
        ship.given[3] = 0x08070605
        ship.give(3, 6, 0x0C0B0A09)
        ship.caught = [0x060504030200 + kind for kind in range(8)]
        ship.saved = True
        octets = [15, 3, 6, 0, 1, 2, 3, 4, 5, 6, 7, 8, 9, 10, 11, 12]
        for kind in range(8):
            octets += [kind, 2, 3, 4, 5, 6, 0, 0]
        self.assertEqual(ship.say(3), [0] + octets + FULL_CHECK)

    def test_the_check_stands_last_low_byte_first(self):
        ship = a_ship(me=1, ships=3, saved=True)
        ship.caught = [1, 2, 3, 4, 5, 6, 7, 8]
        octets = ship.say(0)[1:]
        self.assertEqual(len(octets), 84)
        self.assertEqual(octets[CRC_AT:], list(polynomial_rest(octets[:CRC_AT]).to_bytes(4, "little")))

    def test_the_oldest_gift_to_that_ship(self):
        ship = a_ship(me=0, ships=4, saved=True)
        ship.give(2, 1, 11)
        ship.give(1, 5, 12)
        ship.give(1, 6, 13)
        ship.give(2, 7, 14)
        ship.saved = True
        self.assertEqual(ship.say(1), [0] + letter(0, 1, gift=(5, 0, 12)))
        self.assertEqual(ship.say(2), [0] + letter(0, 2, gift=(1, 0, 11)))
        self.assertEqual(ship.say(3), [0] + letter(0, 3))

    def test_a_gift_that_is_out_no_more_is_not_said(self):
        ship = a_ship(me=0, ships=3, saved=True)
        for units in (11, 12, 13):
            ship.give(1, 0, units)
        ship.saved = True
        self.assertEqual(ship.heard(letter(1, 0, took=2)), 0)
        self.assertEqual(ship.say(1), [0] + letter(0, 1, gift=(0, 2, 13)))
        self.assertEqual(ship.heard(letter(1, 0, took=3)), 0)
        self.assertEqual(ship.say(1), [0] + letter(0, 1))

    def test_what_it_took_is_said_to_that_ship(self):
        ship = a_ship(me=0, ships=3)
        for number in range(3):
            ship.heard(letter(1, 0, gift=(0, number, 5)))
        ship.heard(letter(2, 0, gift=(0, 0, 5)))
        ship.saved = True
        self.assertEqual(ship.say(1), [0] + letter(0, 1, took=3))
        self.assertEqual(ship.say(2), [0] + letter(0, 2, took=1))

    def test_what_it_caught_is_said_and_not_what_it_knows(self):
        ship = a_ship(me=0, ships=3, right=100)
        ship.haul([1, 2, 3, 4, 5, 6, 7, 8])
        ship.saved = True
        ship.heard(letter(1, 0, caught=kinds(77)))
        self.assertEqual(ship.say(2), [0] + letter(0, 2, caught=[1, 2, 3, 4, 5, 6, 7, 8]))

    def test_saying_changes_nothing(self):
        ship = a_ship(me=0, ships=3, saved=True)
        ship.give(1, 0, 5)
        ship.saved = True
        before = picture(ship)
        said = ship.say(1)
        self.assertEqual(picture(ship), before)
        self.assertEqual(ship.say(1), said)

    def test_the_greatest_numbers(self):
        ship = a_ship(me=0, ships=2, right=LIMIT - 1, saved=True)
        ship.caught = kinds(LIMIT - 1)
        ship.taken[1] = GREATEST_WORD
        ship.given[1] = GREATEST_WORD - 1
        ship.give(1, 7, GREATEST_WORD)
        ship.saved = True
        gift = (7, GREATEST_WORD - 1, GREATEST_WORD)
        self.assertEqual(ship.say(1), [0] + letter(0, 1, took=GREATEST_WORD, gift=gift, caught=kinds(LIMIT - 1)))

    def test_what_one_says_another_hears(self):
        giver = a_ship(me=0, ships=2, right=100)
        taker = a_ship(me=1, ships=2, right=0)
        giver.give(1, 3, 40)
        giver.haul(kinds(9))
        giver.saved = True
        message = giver.say(1)[1:]
        self.assertEqual([taker.heard(message), taker.heard(message)], [1, 0])
        self.assertEqual((taker.right, taker.known[0]), (kinds(k3=40), kinds(9)))
        taker.saved = True
        self.assertEqual(giver.heard(taker.say(0)[1:]), 0)
        self.assertEqual(giver.out, [])


if __name__ == "__main__":
    unittest.main()
