"""Promise 5: fc_heard."""

import struct
import unittest

from fleetcatch.message import message_is_right
from tests.helper import CRC_AT, GREATEST_LONG, GREATEST_WORD, LIMIT, NO_GIFT
from tests.helper import a_ship, ask, changed, checked, fc_give, fc_haul, fc_heard, fc_say, fc_start, firsts
from tests.helper import gifts_out, kinds, letter, picture


def busy_ship(**parts):
    """A ship of which every part could be seen to change, ship 1 of 3."""
    ship = a_ship(me=1, ships=3, right=100, **parts)
    ship.haul(kinds(10))
    ship.give(0, 0, 1)
    ship.give(2, 3, 2)
    ship.give(0, 5, 3)
    ship.heard(letter(0, 1, gift=(2, 0, 7), caught=kinds(4)))
    ship.saved = True
    return ship


class HeardRefusals(unittest.TestCase):
    def assert_refused(self, octets):
        ship = busy_ship()
        before = picture(ship)
        self.assertEqual(ship.heard(octets), -71)
        self.assertEqual(picture(ship), before)
        self.assertEqual(ask(fc_start(0, 1, 3, kinds(100)), fc_heard(0, octets)), [[0], [-71]])

    def assert_heard(self, octets, answer):
        self.assertEqual(ask(fc_start(0, 1, 3, kinds(100)), fc_heard(0, octets)), [[0], [answer]])

    def test_every_byte_stands_under_the_check(self):
        octets = letter(0, 1, took=1, gift=(0, 0, 5), caught=kinds(9))
        self.assert_heard(octets, 1)
        for at in range(84):
            wrong = list(octets)
            wrong[at] ^= 1
            with self.subTest(at=at):
                self.assert_refused(wrong)

    def test_other_checks(self):
        octets = letter(0, 1, gift=(0, 0, 5))
        plain = octets[:CRC_AT]
        check = octets[CRC_AT:]
        for wrong in (check[::-1], [octet ^ 255 for octet in check], [0] * 4, [255] * 4):
            with self.subTest(check=wrong):
                self.assert_refused(plain + wrong)
        self.assert_refused([0] * 84)
        self.assert_refused([255] * 84)

    def test_ships_are_below_16(self):
        for number in (16, 17, 255):
            with self.subTest(number=number):
                self.assert_refused(letter(number, 1, gift=(0, 0, 5)))
                self.assert_refused(letter(0, number, gift=(0, 0, 5)))
                self.assertFalse(message_is_right(letter(number, 1)))
                self.assertFalse(message_is_right(letter(0, number)))
        self.assertTrue(message_is_right(letter(15, 15)))

    def test_the_kind_of_a_gift(self):
        for kind in range(8):
            with self.subTest(kind=kind):
                self.assert_heard(letter(0, 1, gift=(kind, 0, 5)), 1)
        for kind in (8, 9, 16, 127, 128, 254):
            with self.subTest(kind=kind):
                self.assert_refused(letter(0, 1, gift=(kind, 0, 5)))
                self.assert_refused(letter(0, 1, gift=(kind, 0, 0)))

    def test_numbers_are_zero_where_there_is_no_gift(self):
        self.assert_heard(letter(0, 1, gift=(NO_GIFT, 0, 0)), 0)
        for number, units in ((1, 0), (0, 1), (1, 1), (2 ** 24, 0), (0, 2 ** 24), (GREATEST_WORD, GREATEST_WORD)):
            with self.subTest(number=number, units=units):
                self.assert_refused(letter(0, 1, gift=(NO_GIFT, number, units)))

    def test_what_it_took_may_be_told_without_a_gift(self):
        self.assert_heard(letter(0, 1, took=1), 0)
        self.assert_heard(letter(0, 1, took=GREATEST_WORD), 0)

    def test_a_gift_has_a_unit(self):
        self.assert_refused(letter(0, 1, gift=(0, 0, 0)))
        self.assert_refused(letter(0, 1, gift=(7, 3, 0)))
        self.assert_heard(letter(0, 1, gift=(0, 0, 1)), 1)
        self.assert_heard(letter(0, 1, gift=(0, 0, GREATEST_WORD)), 1)

    def test_the_eight_numbers_are_below_the_limit(self):
        for kind in range(8):
            name = f"k{kind}"
            with self.subTest(kind=kind):
                self.assert_heard(letter(0, 1, caught=kinds(**{name: LIMIT - 1})), 0)
                self.assert_refused(letter(0, 1, caught=kinds(**{name: LIMIT})))
                self.assert_refused(letter(0, 1, caught=kinds(**{name: 2 ** 56})))
                self.assert_refused(letter(0, 1, caught=kinds(**{name: GREATEST_LONG})))

    def test_the_fourth_byte_is_zero(self):
        for fourth in (1, 128, 255):
            with self.subTest(fourth=fourth):
                self.assert_refused(letter(0, 1, gift=(0, 0, 5), fourth=fourth))

    def test_it_is_for_this_ship(self):
        for receiver in (0, 2, 3, 15):
            with self.subTest(receiver=receiver):
                self.assert_refused(letter(0, receiver, gift=(0, 0, 5)))

    def test_it_is_of_another_ship_of_the_fleet(self):
        for sender in (1, 3, 4, 15):
            with self.subTest(sender=sender):
                self.assert_refused(letter(sender, 1, took=1, gift=(0, 0, 5), caught=kinds(9)))
        self.assert_heard(letter(0, 1, gift=(0, 0, 5)), 1)
        self.assert_heard(letter(2, 1, gift=(0, 0, 5)), 1)

    def test_the_last_ship_of_sixteen(self):
        calls = (fc_start(0, 15, 16, kinds()), fc_heard(0, letter(14, 15, gift=(0, 0, 5))))
        self.assertEqual(firsts(*calls), [0, 1])
        calls = (fc_start(0, 14, 16, kinds()), fc_heard(0, letter(15, 14, gift=(0, 0, 5))))
        self.assertEqual(firsts(*calls), [0, 1])


class HeardGifts(unittest.TestCase):
    def test_a_gift_is_taken_once(self):
        octets = letter(1, 0, gift=(4, 0, 5))
        self.assertEqual(
            ask(
                fc_start(0, 0, 3, kinds(10)),
                fc_heard(0, octets),
                fc_heard(0, octets),
                fc_heard(0, octets),
                fc_haul(0, kinds(k4=16)),
                fc_haul(0, kinds(k4=15)),
            ),
            [[0], [1], [0], [0], [-28], [0]],
        )

    def test_only_the_next_number_is_taken(self):
        self.assertEqual(
            firsts(
                fc_start(0, 0, 3, kinds()),
                fc_heard(0, letter(1, 0, gift=(0, 1, 5))),
                fc_heard(0, letter(1, 0, gift=(0, GREATEST_WORD, 5))),
                fc_haul(0, kinds(k0=1)),
                fc_heard(0, letter(1, 0, gift=(0, 0, 3))),
                fc_heard(0, letter(1, 0, gift=(0, 2, 5))),
                fc_heard(0, letter(1, 0, gift=(0, 1, 5))),
                fc_heard(0, letter(1, 0, gift=(0, 0, 3))),
                fc_heard(0, letter(1, 0, gift=(0, 1, 5))),
                fc_heard(0, letter(1, 0, gift=(0, 2, 5))),
                fc_haul(0, kinds(k0=14)),
                fc_haul(0, kinds(k0=13)),
            ),
            [0, 0, 0, -28, 1, 0, 1, 0, 0, 1, -28, 0],
        )

    def test_taken_gifts_are_counted_for_each_ship(self):
        self.assertEqual(
            firsts(
                fc_start(0, 0, 3, kinds()),
                fc_heard(0, letter(1, 0, gift=(0, 0, 5))),
                fc_heard(0, letter(2, 0, gift=(0, 1, 5))),
                fc_heard(0, letter(2, 0, gift=(0, 0, 5))),
                fc_heard(0, letter(1, 0, gift=(0, 1, 5))),
            ),
            [0, 1, 0, 1, 1],
        )

    def test_what_taking_changes(self):
        ship = busy_ship()
        before = picture(ship)
        self.assertEqual(ship.heard(letter(2, 1, gift=(6, 0, 30))), 1)
        right = list(before["right"])
        right[6] += 30
        taken = list(before["taken"])
        taken[2] += 1
        self.assertEqual(picture(ship), changed(before, right=right, taken=taken, saved=False))

    def test_all_units_of_a_great_gift(self):
        for units in (2 ** 8, 2 ** 16, 2 ** 24, 2 ** 31, GREATEST_WORD):
            ship = a_ship(me=0, ships=2, right=3)
            with self.subTest(units=units):
                self.assertEqual(ship.heard(letter(1, 0, gift=(2, 0, units))), 1)
                self.assertEqual(ship.right, kinds(3, k2=3 + units))

    def test_the_ship_stays_saved_where_nothing_is_taken(self):
        ship = busy_ship()
        self.assertEqual(ship.heard(letter(0, 1, took=1, gift=(2, 0, 7), caught=kinds(50))), 0)
        self.assertTrue(ship.saved)
        self.assertEqual(ship.heard(letter(2, 1)), 0)
        self.assertTrue(ship.saved)
        self.assertEqual(ship.heard(letter(2, 1, gift=(2, 0, 7))), 1)
        self.assertFalse(ship.saved)
        self.assertEqual(ship.heard(letter(2, 1)), 0)
        self.assertFalse(ship.saved)

    def test_a_ship_is_not_saved_behind_a_taken_gift(self):
        calls = (fc_start(0, 0, 3, kinds()), fc_heard(0, letter(1, 0, gift=(0, 0, 5))), fc_say(0, 1))
        self.assertEqual(firsts(*calls), [0, 1, -16])

    def test_the_right_stays_below_the_limit(self):
        for kind in range(8):
            with self.subTest(kind=kind):
                self.assertEqual(
                    firsts(
                        fc_start(0, 0, 2, kinds(9, **{f"k{kind}": LIMIT - 5})),
                        fc_heard(0, letter(1, 0, gift=(kind, 0, 6))),
                        fc_heard(0, letter(1, 0, gift=(kind, 0, 5))),
                        fc_heard(0, letter(1, 0, gift=(kind, 0, 4))),
                        fc_heard(0, letter(1, 0, gift=(kind, 1, 1))),
                        fc_heard(0, letter(1, 0, gift=((kind + 1) % 8, 1, 1))),
                    ),
                    [0, 0, 0, 1, 0, 1],
                )

    def test_a_gift_without_room_is_taken_later(self):
        octets = letter(1, 0, gift=(0, 0, 5))
        self.assertEqual(
            firsts(
                fc_start(0, 0, 2, kinds(LIMIT - 1)),
                fc_heard(0, octets),
                fc_haul(0, kinds(4)),
                fc_heard(0, octets),
                fc_haul(0, kinds(1)),
                fc_heard(0, octets),
            ),
            [0, 0, 0, 0, 0, 1],
        )

    def test_a_gift_without_room_is_else_heard(self):
        ship = a_ship(me=0, ships=2, right=LIMIT - 1)
        ship.give(1, 1, 1)
        ship.saved = True
        before = picture(ship)
        self.assertEqual(ship.heard(letter(1, 0, took=1, gift=(0, 0, 1), caught=kinds(3))), 0)
        known = [[0] * 8, kinds(3)] + [[0] * 8] * 14
        self.assertEqual(picture(ship), changed(before, out=[], known=known))

    def test_the_last_gift_that_can_be_taken(self):
        ship = a_ship(me=0, ships=2, right=0)
        ship.taken[1] = GREATEST_WORD - 1
        self.assertEqual(ship.heard(letter(1, 0, gift=(0, GREATEST_WORD - 1, 5))), 1)
        self.assertEqual(ship.taken[1], GREATEST_WORD)
        before = picture(ship)
        self.assertEqual(ship.heard(letter(1, 0, gift=(0, GREATEST_WORD, 5))), 0)
        self.assertEqual(picture(ship), before)


class HeardTook(unittest.TestCase):
    def test_gifts_below_what_it_took_are_out_no_more(self):
        for took, numbers in ((0, [0, 1, 2]), (1, [1, 2]), (2, [2]), (3, []), (4, []), (GREATEST_WORD, [])):
            ship = a_ship(me=0, ships=3)
            for kind in range(3):
                ship.give(1, kind, 5)
                ship.give(2, kind, 6)
            ship.saved = True
            before = picture(ship)
            left = [gift for gift in before["out"] if gift[0] == 2 or gift[2] in numbers]
            with self.subTest(took=took):
                self.assertEqual(ship.heard(letter(1, 0, took=took)), 0)
                self.assertEqual(picture(ship), changed(before, out=left))

    def test_great_numbers(self):
        for number in (2 ** 8, 2 ** 16, 2 ** 24, 2 ** 31, GREATEST_WORD - 1):
            ship = a_ship(me=0, ships=2)
            ship.given[1] = number
            ship.give(1, 0, 5)
            with self.subTest(number=number):
                self.assertEqual(ship.heard(letter(1, 0, took=number)), 0)
                self.assertEqual(gifts_out(ship), [(1, 0, number, 5)])
                self.assertEqual(ship.heard(letter(1, 0, took=number + 1)), 0)
                self.assertEqual(gifts_out(ship), [])

    def test_a_late_message_brings_no_gift_back(self):
        ship = a_ship(me=0, ships=3)
        ship.give(1, 0, 5)
        ship.give(1, 0, 6)
        ship.heard(letter(1, 0, took=2))
        ship.heard(letter(1, 0, took=1))
        self.assertEqual(gifts_out(ship), [])
        self.assertEqual(ship.give(1, 0, 7), 2)
        self.assertEqual(gifts_out(ship), [(1, 0, 2, 7)])

    def test_room_for_gifts_is_had_again(self):
        calls = [fc_start(0, 0, 3, kinds(200))] + [fc_give(0, 1, 0, 1), fc_give(0, 2, 0, 1)] * 32
        calls += [fc_give(0, 1, 0, 1), fc_heard(0, letter(1, 0, took=32))] + [fc_give(0, 2, 0, 1)] * 33
        self.assertEqual(firsts(*calls)[65:], [-28, 0] + list(range(32, 64)) + [-28])


class HeardCaught(unittest.TestCase):
    def test_the_greater_is_known_kind_by_kind(self):
        ship = a_ship(me=0, ships=3, saved=True)
        self.assertEqual(ship.heard(letter(1, 0, caught=[5, 5, 5, 5, 0, 1, 2, LIMIT - 1])), 0)
        self.assertEqual(ship.known[1], [5, 5, 5, 5, 0, 1, 2, LIMIT - 1])
        self.assertEqual(ship.heard(letter(1, 0, caught=[4, 5, 6, 0, 9, 0, 3, 0])), 0)
        self.assertEqual(ship.known[1], [5, 5, 6, 5, 9, 1, 3, LIMIT - 1])
        self.assertEqual(ship.known[0], kinds())
        self.assertEqual(ship.known[2], kinds())
        self.assertEqual(ship.caught, kinds())

    def test_known_is_kept_for_each_ship(self):
        ship = a_ship(me=1, ships=16)
        for sender in (0, 2, 15):
            ship.heard(letter(sender, 1, caught=kinds(sender + 1)))
        for sender in range(16):
            self.assertEqual(ship.known[sender], kinds(sender + 1 if sender in (0, 2, 15) else 0))

    def test_known_is_learned_with_a_gift_and_with_one_that_came_before(self):
        ship = a_ship(me=0, ships=2)
        self.assertEqual(ship.heard(letter(1, 0, gift=(0, 0, 5), caught=kinds(1))), 1)
        self.assertEqual(ship.known[1], kinds(1))
        self.assertEqual(ship.heard(letter(1, 0, gift=(0, 0, 5), caught=kinds(2))), 0)
        self.assertEqual(ship.known[1], kinds(2))

    def test_all_of_a_message_is_heard_at_once(self):
        ship = busy_ship()
        before = picture(ship)
        self.assertEqual(ship.heard(letter(0, 1, took=1, gift=(7, 1, 20), caught=kinds(2, k6=60))), 1)
        self.assertEqual(picture(ship), changed(
            before,
            right=[right + (20 if kind == 7 else 0) for kind, right in enumerate(before["right"])],
            out=[(2, 3, 0, 2), (0, 5, 1, 3)],
            taken=[2] + [0] * 15,
            known=[kinds(4, k6=60)] + [[0] * 8] * 15,
            saved=False,
        ))

    def test_the_message_handed_in_stays(self):
        octets = checked(struct.pack("<4B3I8Q", 1, 0, 0, 0, 0, 0, 5, *kinds(3)))
        copy = list(octets)
        a_ship(me=0, ships=2).heard(octets)
        self.assertEqual(octets, copy)


if __name__ == "__main__":
    unittest.main()
