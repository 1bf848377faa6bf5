"""Promise 8: fc_save, the bytes of what's kept, and that a saved ship says its message (promise 4)."""

import unittest

from tests.helper import BUSY_ANSWERS, GIFTS_AT, GREATEST_WORD, KEPT_CRC_AT, KEPT_SIZE, KNOWN_AT, LIMIT
from tests.helper import ask, busy_calls, busy_kept, fc_give, fc_haul, fc_heard, fc_load, fc_of, fc_save, fc_say
from tests.helper import fc_start, fc_state, firsts, kept, kinds, letter, polynomial_rest


class SaveOctets(unittest.TestCase):
    def test_a_new_ship_byte_by_byte(self):
        octets = [2, 5, 0, 0]
        for right in (1, 2, 3, 4, 5, 6, 7, 8):
            octets += [right, 0, 0, 0, 0, 0, 0, 0]
        octets += [0] * (KEPT_CRC_AT - len(octets))
        octets += list(polynomial_rest(octets).to_bytes(4, "little"))
        self.assertEqual(ask(fc_start(0, 2, 5, [1, 2, 3, 4, 5, 6, 7, 8]), fc_save(0)), [[0], [0] + octets])
        self.assertEqual(len(octets), KEPT_SIZE)

    def test_each_part_byte_by_byte(self):
        answered = ask(
            fc_start(0, 1, 3, kinds(0x060504030201, k7=0x0C0B0A090807)),
            fc_haul(0, [0x01, 0, 0, 0, 0, 0, 0, 0x04030201]),
            fc_give(0, 2, 3, 0x01),
            fc_give(0, 0, 4, 0x0201),
            fc_give(0, 2, 5, 0x04030201),
            fc_heard(0, letter(2, 1, took=1, gift=(6, 0, 1), caught=kinds(0x0F0E0D0C0B0A))),
            fc_save(0),
        )
        octets = [1, 3, 2, 0]
        octets += [0, 2, 3, 4, 5, 6, 0, 0]
        octets += [1, 2, 3, 4, 5, 6, 0, 0] * 2
        octets += [0, 2, 3, 4, 5, 6, 0, 0]
        octets += [0, 0, 3, 4, 5, 6, 0, 0]
        octets += [0, 0, 0, 0, 5, 6, 0, 0]
        octets += [2, 2, 3, 4, 5, 6, 0, 0]
        octets += [6, 6, 6, 6, 11, 12, 0, 0]
        octets += [1] + [0] * 55 + [1, 2, 3, 4, 0, 0, 0, 0]
        octets += [1, 0, 0, 0] + [0, 0, 0, 0] + [2, 0, 0, 0] + [0] * 52
        octets += [0, 0, 0, 0] + [0, 0, 0, 0] + [1, 0, 0, 0] + [0] * 52
        self.assertEqual(len(octets), GIFTS_AT)
        octets += [0, 4, 0, 0, 0, 0, 0, 0, 1, 2, 0, 0]
        octets += [2, 5, 0, 0, 1, 0, 0, 0, 1, 2, 3, 4]
        octets += [0] * 12 * 62
        self.assertEqual(len(octets), KNOWN_AT)
        octets += [0] * 128 + [10, 11, 12, 13, 14, 15, 0, 0] * 8 + [0] * 64 * 13
        octets += list(polynomial_rest(octets).to_bytes(4, "little"))
        self.assertEqual(answered[:-1], [[0], [0], [0], [0], [1], [1]])
        self.assertEqual(answered[-1], [0] + octets)

    def test_a_ship_that_hauled_gave_took_and_heard(self):
        answered = ask(*busy_calls(), fc_save(0))
        self.assertEqual([answer[0] for answer in answered], BUSY_ANSWERS + [0])
        self.assertEqual(answered[-1], [0] + busy_kept())

    def test_64_gifts_out(self):
        calls = [fc_start(0, 0, 16, kinds(10000))]
        gifts = []
        for place in range(64):
            to = 1 + place % 15
            calls.append(fc_give(0, to, place % 8, place + 1))
            gifts.append((to, place % 8, place // 15, place + 1))
        right = [10000 - sum(gift[3] for gift in gifts if gift[1] == kind) for kind in range(8)]
        given = {to: len([gift for gift in gifts if gift[0] == to]) for to in range(16)}
        octets = kept(me=0, ships=16, right=right, given=given, gifts=gifts)
        self.assertEqual(ask(*calls, fc_save(0))[-1], [0] + octets)
        self.assertEqual(ask(*calls, fc_give(0, 1, 0, 1), fc_save(0))[-2:], [[-28], [0] + octets])

    def test_the_gifts_behind_one_that_is_out_no_more_move_up(self):
        answered = ask(
            fc_start(0, 0, 3, kinds(100)),
            fc_give(0, 1, 0, 5),
            fc_give(0, 2, 1, 6),
            fc_give(0, 1, 2, 7),
            fc_heard(0, letter(1, 0, took=1)),
            fc_save(0),
            fc_heard(0, letter(1, 0, took=2)),
            fc_heard(0, letter(2, 0, took=1)),
            fc_save(0),
        )
        parts = {"right": kinds(100, k0=95, k1=94, k2=93), "given": {1: 2, 2: 1}}
        self.assertEqual(answered[5], [0] + kept(gifts=[(2, 1, 0, 6), (1, 2, 1, 7)], **parts))
        self.assertEqual(answered[8], [0] + kept(**parts))

    def test_what_the_fleet_of_16_is_known_to_have_caught(self):
        calls = [fc_start(0, 8, 16, kinds(50)), fc_haul(0, kinds(3))]
        known = {}
        for sender in range(16):
            if sender != 8:
                known[sender] = [LIMIT - 1 - sender - kind for kind in range(8)]
                calls.append(fc_heard(0, letter(sender, 8, caught=known[sender])))
        octets = kept(me=8, ships=16, right=kinds(47), caught=kinds(3), known=known)
        self.assertEqual(ask(*calls, fc_save(0))[-1], [0] + octets)

    def test_the_greatest_numbers(self):
        most = kinds(LIMIT - 1)
        self.assertEqual(
            ask(fc_start(0, 15, 16, most), fc_give(0, 14, 7, GREATEST_WORD), fc_save(0))[-1],
            [0] + kept(
                me=15,
                ships=16,
                right=kinds(LIMIT - 1, k7=LIMIT - 1 - GREATEST_WORD),
                given={14: 1},
                gifts=[(14, 7, 0, GREATEST_WORD)],
            ),
        )

    def test_each_object_is_kept_for_itself(self):
        calls = [fc_start(number, number, 4, kinds(number)) for number in range(4)]
        calls += [fc_save(number) for number in (3, 1, 0, 2)]
        rows = [[0] + kept(me=number, ships=4, right=kinds(number)) for number in (3, 1, 0, 2)]
        self.assertEqual(ask(*calls)[4:], rows)

    def test_saving_changes_nothing_else(self):
        asked = [fc_of(0, 0), fc_of(0, 1), fc_of(0, 2)] + [fc_state(0, kind) for kind in range(8)]
        answered = ask(*busy_calls(), *asked, fc_save(0), *asked, fc_save(0))[len(BUSY_ANSWERS):]
        self.assertEqual(answered[:12], answered[12:])


class SavedShip(unittest.TestCase):
    def test_it_says_its_message(self):
        answered = ask(*busy_calls(), fc_say(0, 0), fc_save(0), fc_say(0, 0), fc_say(0, 2))
        caught = [1, 2, 3, 4, 5, 6, 7, 8]
        self.assertEqual(answered[-4], [-16])
        self.assertEqual(answered[-2], [0] + letter(1, 0, took=2, gift=(2, 0, 20), caught=caught))
        self.assertEqual(answered[-1], [0] + letter(1, 2, took=0, gift=(0, 1, 50), caught=caught))

    def test_a_new_ship_says_it_without_a_gift(self):
        answered = ask(fc_start(0, 0, 2, kinds(9)), fc_say(0, 1), fc_save(0), fc_say(0, 1), fc_say(0, 1))
        self.assertEqual([answered[1], *answered[3:]], [[-16], [0] + letter(0, 1), [0] + letter(0, 1)])

    def test_to_this_ship_or_to_none_it_says_nothing(self):
        calls = [fc_start(0, 1, 3, kinds(9)), fc_save(0)] + [fc_say(0, to) for to in (1, 3, 16, GREATEST_WORD)]
        self.assertEqual(ask(*calls)[2:], [[-22]] * 4)

    def test_what_makes_it_not_saved(self):
        for why, call, answer in (
            ("a haul", fc_haul(0, kinds(k0=1)), 0),
            ("a haul of nothing", fc_haul(0, kinds()), 0),
            ("a gift given", fc_give(0, 2, 0, 1), 0),
            ("a gift taken", fc_heard(0, letter(2, 0, gift=(0, 0, 5))), 1),
            ("a start", fc_start(0, 0, 3, kinds(9)), 0),
        ):
            with self.subTest(why):
                self.assertEqual(
                    firsts(
                        fc_start(0, 0, 3, kinds(9)),
                        fc_save(0),
                        fc_say(0, 1),
                        call,
                        fc_say(0, 1),
                        fc_say(0, 2),
                        fc_save(0),
                        fc_say(0, 1),
                    ),
                    [0, 0, 0, answer, -16, -16, 0, 0],
                )

    def test_what_leaves_it_saved(self):
        gift = letter(2, 0, gift=(0, 0, 5))
        for why, call, answer in (
            ("a refused haul", fc_haul(0, kinds(10)), -28),
            ("a gift refused as it is not valid", fc_give(0, 0, 0, 1), -22),
            ("a gift refused for want of right", fc_give(0, 1, 0, 10), -28),
            ("a message refused", fc_heard(0, letter(2, 1, gift=(0, 1, 5))), -71),
            ("a gift that came again", fc_heard(0, gift), 0),
            ("a message that tells of a catch", fc_heard(0, letter(2, 0, caught=kinds(5))), 0),
            ("a message that tells what was taken", fc_heard(0, letter(1, 0, took=1)), 0),
            ("a refused start", fc_start(0, 0, 17, kinds(9)), -22),
            ("a refused load", fc_load(0, [0] * KEPT_SIZE), -71),
            ("a question", fc_of(0, 1), 0),
            ("a refused question", fc_of(0, 3), -22),
            ("a question of a kind", fc_state(0, 1), 0),
            ("a refused question of a kind", fc_state(0, 8), -22),
            ("a message said", fc_say(0, 1), 0),
            ("a message not said", fc_say(0, 0), -22),
        ):
            with self.subTest(why):
                self.assertEqual(
                    firsts(
                        fc_start(0, 0, 3, kinds(9, k0=4)),
                        fc_give(0, 1, 3, 2),
                        fc_heard(0, gift),
                        fc_save(0),
                        call,
                        fc_say(0, 1),
                        fc_say(0, 2),
                    ),
                    [0, 0, 1, 0, answer, 0, 0],
                )

    def test_another_object_is_not_saved_by_it(self):
        calls = [fc_start(0, 0, 2, kinds()), fc_start(1, 0, 2, kinds()), fc_save(0), fc_say(1, 1), fc_say(0, 1)]
        self.assertEqual(firsts(*calls), [0, 0, 0, -16, 0])

    def test_what_one_says_another_hears(self):
        asked = ask(fc_start(0, 0, 2, kinds(100)), fc_give(0, 1, 3, 40), fc_haul(0, kinds(9)), fc_save(0), fc_say(0, 1))
        message = asked[-1][1:]
        calls = [fc_start(1, 1, 2, kinds()), fc_heard(1, message), fc_heard(1, message), fc_save(1), fc_say(1, 0)]
        answered = ask(*calls)
        self.assertEqual([answered[1], answered[2]], [[1], [0]])
        self.assertEqual(answered[3], [0] + kept(me=1, ships=2, right=kinds(k3=40), taken={0: 1}, known={0: kinds(9)}))
        self.assertEqual(answered[4], [0] + letter(1, 0, took=1))


if __name__ == "__main__":
    unittest.main()
