"""Promise 9: fc_load, when what's kept is right, and what only a loaded ship can have."""

import struct
import unittest

from tests.helper import BUSY_ANSWERS, GIFTS_AT, GREATEST_LONG, GREATEST_WORD, KEPT_CRC_AT, KEPT_SIZE, KNOWN_AT, LIMIT
from tests.helper import ask, busy_calls, busy_kept, checked, fc_give, fc_haul, fc_heard, fc_load, fc_of, fc_save
from tests.helper import fc_say, fc_start, fc_state, firsts, kept, kinds, letter, with_octet

GREAT = (LIMIT, LIMIT + 1, 2 ** 56, GREATEST_LONG)


def with_number(octets, at, number):
    """What's kept with another number of eight bytes in one place, and its check made right again."""
    return checked(octets[:at] + list(struct.pack("<Q", number)) + octets[at + 8:KEPT_CRC_AT])


def full_kept():
    """A ship in which every part has something else than 0, where it can."""
    return kept(
        me=3,
        ships=16,
        right=[LIMIT - 1 - kind for kind in range(8)],
        caught=[LIMIT - 11 - kind for kind in range(8)],
        given={ship: GREATEST_WORD - ship for ship in range(16)},
        taken={ship: GREATEST_WORD - 20 - ship for ship in range(16)},
        gifts=[((place % 12) + 4, place % 8, GREATEST_WORD - place, GREATEST_WORD - 70 - place) for place in range(64)],
        known={ship: [LIMIT - 100 - 8 * ship - kind for kind in range(8)] for ship in range(16)},
    )


class LoadRefusals(unittest.TestCase):
    def assert_refused(self, octets):
        self.assertEqual(len(octets), KEPT_SIZE)
        answered = ask(fc_load(0, octets), *busy_calls(1), fc_save(1), fc_load(1, octets), fc_say(1, 0), fc_save(1))
        self.assertEqual(answered[0], [-71])
        self.assertEqual(answered[-3], [-71])
        self.assertEqual(answered[-2][0], 0)
        self.assertEqual(answered[-1], [0] + busy_kept())

    def assert_loaded(self, octets):
        self.assertEqual(ask(fc_load(0, octets), fc_save(0)), [[0], [0] + octets])

    def test_every_byte_stands_under_the_check(self):
        octets = busy_kept()
        for at in [*range(0, 4), *range(4, KEPT_CRC_AT, 61), *range(KEPT_CRC_AT - 1, KEPT_SIZE)]:
            wrong = list(octets)
            wrong[at] ^= 64
            with self.subTest(at=at):
                self.assertEqual(ask(fc_load(0, wrong)), [[-71]])

    def test_other_checks(self):
        octets = busy_kept()
        plain = octets[:KEPT_CRC_AT]
        check = octets[KEPT_CRC_AT:]
        for wrong in (check[::-1], [octet ^ 255 for octet in check], [0] * 4, [255] * 4, [check[0] ^ 1] + check[1:]):
            with self.subTest(check=wrong):
                self.assert_refused(plain + wrong)
        self.assert_refused([0] * KEPT_SIZE)
        self.assert_refused([255] * KEPT_SIZE)

    def test_ships_is_2_to_16(self):
        for ships in (0, 1, 17, 255):
            with self.subTest(ships=ships):
                self.assert_refused(kept(me=0, ships=ships))
        for ships in (2, 3, 15, 16):
            with self.subTest(ships=ships):
                self.assert_loaded(kept(me=0, ships=ships))

    def test_me_is_below_ships(self):
        for ships in (2, 3, 16):
            for me in (ships, ships + 1, 255):
                with self.subTest(ships=ships, me=me):
                    self.assert_refused(kept(me=me, ships=ships))
            with self.subTest(ships=ships):
                self.assert_loaded(kept(me=ships - 1, ships=ships))

    def test_at_most_64_gifts(self):
        gifts = [(1, 0, number, 1) for number in range(64)]
        self.assert_loaded(kept(gifts=gifts))
        for count in (65, 66, 128, 255):
            with self.subTest(count=count):
                self.assert_refused(kept(gifts=gifts, count=count))

    def test_65_gifts_where_the_next_bytes_look_like_one(self):
        gifts = [(1, 0, number, 1) for number in range(64)]
        for_ship_1_number_64 = 1 + (64 << 32)
        self.assert_refused(kept(gifts=gifts, count=65, known={0: [for_ship_1_number_64, 1, 0, 0, 0, 0, 0, 0]}))

    def test_the_fourth_byte_is_zero(self):
        for fourth in (1, 128, 255):
            with self.subTest(fourth=fourth):
                self.assert_refused(kept(fourth=fourth))

    def test_rights_and_what_was_caught_are_below_the_limit(self):
        for name in ("right", "caught"):
            for kind in range(8):
                with self.subTest(name=name, kind=kind):
                    self.assert_loaded(kept(**{name: kinds(**{f"k{kind}": LIMIT - 1})}))
                    for number in GREAT:
                        self.assert_refused(kept(**{name: kinds(**{f"k{kind}": number})}))

    def test_what_is_known_is_below_the_limit_of_each_of_16_ships(self):
        octets = kept(me=1, ships=3)
        for ship in range(16):
            for kind in (0, ship % 8, 7):
                at = KNOWN_AT + 64 * ship + 8 * kind
                with self.subTest(ship=ship, kind=kind):
                    self.assert_loaded(with_number(octets, at, LIMIT - 1))
                    self.assert_refused(with_number(octets, at, LIMIT))
            with self.subTest(ship=ship):
                self.assert_refused(kept(me=1, ships=3, known={ship: kinds(k3=GREATEST_LONG)}))

    def test_each_gift_is_for_another_ship_of_the_fleet(self):
        for to in (1, 3, 4, 15, 16, 255):
            for place in (0, 1, 2):
                gifts = [(0, 0, 0, 1), (2, 0, 0, 1), (0, 0, 1, 1)]
                gifts[place] = (to, 0, 0, 1)
                with self.subTest(to=to, place=place):
                    self.assert_refused(kept(me=1, ships=3, gifts=gifts))
        self.assert_loaded(kept(me=1, ships=3, gifts=[(0, 0, 0, 1), (2, 0, 0, 1)]))
        self.assert_refused(kept(me=15, ships=16, gifts=[(15, 0, 0, 1)]))
        self.assert_loaded(kept(me=14, ships=16, gifts=[(15, 0, 0, 1)]))

    def test_each_gift_is_of_a_kind(self):
        for kind in (8, 9, 254, 255):
            with self.subTest(kind=kind):
                self.assert_refused(kept(gifts=[(1, kind, 0, 1)]))
                self.assert_refused(kept(gifts=[(1, 0, 0, 1), (2, kind, 0, 1)]))
        for kind in range(8):
            with self.subTest(kind=kind):
                self.assert_loaded(kept(gifts=[(1, kind, 0, 1)]))

    def test_each_gift_is_of_a_unit_at_least(self):
        self.assert_refused(kept(gifts=[(1, 0, 0, 0)]))
        self.assert_refused(kept(gifts=[(1, 0, 0, 1), (1, 0, 1, 0)]))
        for units in (1, 2 ** 8, 2 ** 16, 2 ** 24, GREATEST_WORD):
            with self.subTest(units=units):
                self.assert_loaded(kept(gifts=[(1, 0, 0, units)]))

    def test_the_last_of_64_gifts_is_looked_at(self):
        gifts = [(1, 0, number, 1) for number in range(63)]
        for gift in ((0, 0, 63, 1), (3, 0, 63, 1), (1, 8, 63, 1), (1, 0, 63, 0)):
            with self.subTest(gift=gift):
                self.assert_refused(kept(gifts=gifts + [gift]))

    def test_zero_where_zero_is_told_in_a_gift(self):
        octets = kept(gifts=[(1, 0, number, 1) for number in range(64)])
        for place in (0, 1, 40, 63):
            for at in (2, 3):
                for octet in (1, 128):
                    with self.subTest(place=place, at=at, octet=octet):
                        self.assert_refused(with_octet(octets, GIFTS_AT + 12 * place + at, octet))

    def test_zero_behind_the_last_gift(self):
        for count in (0, 1, 63):
            octets = kept(gifts=[(1, 0, number, 1) for number in range(count)])
            end = GIFTS_AT + 12 * count
            for at in sorted({end, end + 1, end + 2, end + 4, end + 8, end + 11, KNOWN_AT - 12, KNOWN_AT - 1}):
                with self.subTest(count=count, at=at):
                    self.assert_refused(with_octet(octets, at, 1))

    def test_a_whole_gift_behind_the_last_one(self):
        self.assert_refused(kept(gifts=[(1, 0, 0, 1), (1, 0, 1, 1)], count=1))
        self.assert_refused(kept(gifts=[(1, 0, 0, 1)], count=0))

    def test_fewer_gifts_than_are_told(self):
        self.assert_refused(kept(gifts=[(1, 0, 0, 1)], count=2))
        self.assert_refused(kept(count=1))

    def test_a_message_is_not_what_is_kept(self):
        self.assert_refused(letter(0, 1) + [0] * (KEPT_SIZE - 84))


class LoadedShip(unittest.TestCase):
    def test_what_was_saved_is_loaded_and_saved_again(self):
        saved = ask(*busy_calls(), fc_save(0))[-1][1:]
        self.assertEqual(
            ask(*busy_calls(), fc_save(0), fc_load(0, saved), fc_save(0), fc_load(2, saved), fc_save(2), fc_save(0))[
                len(BUSY_ANSWERS):
            ],
            [[0] + saved, [0], [0] + saved, [0], [0] + saved, [0] + saved],
        )

    def test_as_the_first_call_of_an_object(self):
        for number in range(4):
            with self.subTest(number=number):
                self.assertEqual(ask(fc_load(number, busy_kept()), fc_save(number)), [[0], [0] + busy_kept()])

    def test_every_part_of_a_full_ship(self):
        octets = full_kept()
        self.assertEqual(ask(fc_load(0, octets), fc_save(0), fc_load(0, octets), fc_save(0))[1::2], [[0] + octets] * 2)

    def test_it_is_saved(self):
        answered = ask(fc_load(0, busy_kept()), fc_say(0, 0), fc_say(0, 2), fc_say(0, 1), fc_say(0, 3))
        caught = [1, 2, 3, 4, 5, 6, 7, 8]
        self.assertEqual(answered, [
            [0],
            [0] + letter(1, 0, took=2, gift=(2, 0, 20), caught=caught),
            [0] + letter(1, 2, gift=(0, 1, 50), caught=caught),
            [-22],
            [-22],
        ])

    def test_it_is_saved_though_the_ship_before_was_not(self):
        calls = [fc_start(0, 0, 2, kinds()), fc_say(0, 1), fc_load(0, kept(ships=2)), fc_say(0, 1)]
        self.assertEqual(firsts(*calls), [0, -16, 0, 0])

    def test_it_is_saved_no_more_behind_a_change(self):
        for why, call, answer in (
            ("a haul", fc_haul(0, kinds()), 0),
            ("a gift given", fc_give(0, 2, 1, 1), 2),
            ("a gift taken", fc_heard(0, letter(0, 1, gift=(0, 2, 5))), 1),
        ):
            with self.subTest(why):
                self.assertEqual(firsts(fc_load(0, busy_kept()), call, fc_say(0, 0)), [0, answer, -16])

    def test_it_answers_as_the_ship_that_was_kept(self):
        asked = [fc_of(0, ship) for ship in (0, 1, 2, 3)] + [fc_state(0, kind) for kind in range(9)]
        saved_ship = ask(*busy_calls(), fc_save(0), *asked)[len(BUSY_ANSWERS) + 1:]
        self.assertEqual(ask(fc_load(0, busy_kept()), *asked)[1:], saved_ship)

    def test_what_was_done_behind_the_save_is_gone(self):
        self.assertEqual(
            ask(
                *busy_calls(),
                fc_haul(0, kinds(10)),
                fc_give(0, 0, 0, 1),
                fc_heard(0, letter(2, 1, took=2, gift=(0, 0, 5), caught=kinds(99))),
                fc_load(0, busy_kept()),
                fc_save(0),
            )[-5:],
            [[0], [2], [1], [0], [0] + busy_kept()],
        )

    def test_it_may_be_another_ship_of_another_fleet(self):
        octets = kept(me=9, ships=12, right=kinds(7))
        answered = ask(*busy_calls(), fc_load(0, octets), fc_give(0, 9, 0, 1), fc_give(0, 11, 0, 1), fc_give(0, 12, 0, 1))
        self.assertEqual(answered[-4:], [[0], [-22], [0], [-22]])

    def test_two_objects_of_the_same_bytes_go_on_apart(self):
        calls = [fc_load(0, busy_kept()), fc_load(1, busy_kept()), fc_haul(0, kinds(1)), fc_give(0, 2, 7, 1)]
        calls += [fc_heard(0, letter(0, 1, took=2, caught=kinds(50))), fc_save(1), fc_load(2, busy_kept()), fc_save(2)]
        answered = ask(*calls)
        self.assertEqual([answered[5], answered[7]], [[0] + busy_kept()] * 2)

    def test_a_start_makes_a_loaded_ship_anew(self):
        calls = [fc_load(0, full_kept()), fc_start(0, 3, 16, kinds(5)), fc_say(0, 0), fc_save(0)]
        self.assertEqual(ask(*calls), [[0], [0], [-16], [0] + kept(me=3, ships=16, right=kinds(5))])

    def test_a_load_behind_a_refused_one(self):
        wrong = with_octet(busy_kept(), 3, 1)
        self.assertEqual(firsts(fc_load(0, wrong), fc_load(0, busy_kept()), fc_load(0, wrong)), [-71, 0, -71])
        self.assertEqual(firsts(fc_load(0, wrong), fc_start(0, 0, 2, kinds())), [-71, 0])

    def test_a_refused_load_leaves_a_ship_that_is_not_saved_so(self):
        wrong = with_octet(busy_kept(), 3, 1)
        calls = [*busy_calls(), fc_load(0, wrong), fc_say(0, 0), fc_save(0)]
        self.assertEqual(ask(*calls)[-3:], [[-71], [-16], [0] + busy_kept()])

    def test_a_refused_start_leaves_a_loaded_ship(self):
        calls = [fc_load(0, busy_kept()), fc_start(0, 3, 3, kinds()), fc_say(0, 1), fc_say(0, 0), fc_save(0)]
        answered = ask(*calls)
        self.assertEqual([answer[0] for answer in answered], [0, -22, -22, 0, 0])
        self.assertEqual(answered[-1], [0] + busy_kept())

    def test_what_is_kept_of_this_ship_and_of_those_that_there_are_not_stays(self):
        octets = kept(me=1, ships=2, known={ship: kinds(ship + 5) for ship in range(16)}, given={1: 4, 9: 5}, taken={15: 6})
        self.assertEqual(ask(fc_load(0, octets), fc_save(0)), [[0], [0] + octets])


class OnlyLoaded(unittest.TestCase):
    def test_the_last_gift_that_can_be_given(self):
        octets = kept(right=kinds(9), given={1: GREATEST_WORD - 1, 2: GREATEST_WORD})
        answered = ask(
            fc_load(0, octets),
            fc_give(0, 2, 0, 1),
            fc_say(0, 2),
            fc_give(0, 1, 0, 1),
            fc_give(0, 1, 0, 1),
            fc_save(0),
            fc_say(0, 1),
            fc_heard(0, letter(1, 0, took=GREATEST_WORD - 1)),
            fc_state(0, 0),
            fc_heard(0, letter(1, 0, took=GREATEST_WORD)),
            fc_state(0, 0),
            fc_give(0, 1, 0, 1),
        )
        self.assertEqual(answered[1], [-28])
        self.assertEqual(answered[2], [0] + letter(0, 2))
        self.assertEqual(answered[3:5], [[2 ** 31 - 2], [-28]])
        self.assertEqual(answered[5], [0] + kept(
            right=kinds(9, k0=8),
            given={1: GREATEST_WORD, 2: GREATEST_WORD},
            gifts=[(1, 0, GREATEST_WORD - 1, 1)],
        ))
        self.assertEqual(answered[6], [0] + letter(0, 1, gift=(0, GREATEST_WORD - 1, 1)))
        self.assertEqual(answered[7:], [[0], [0, 8, 0, 1, 0], [0], [0, 8, 0, 0, 0], [-28]])

    def test_not_valid_comes_ahead_of_the_last_gift(self):
        octets = kept(me=1, right=kinds(9), given={ship: GREATEST_WORD for ship in range(16)})
        calls = [fc_load(0, octets), fc_give(0, 1, 0, 1), fc_give(0, 3, 0, 1), fc_give(0, 0, 8, 1), fc_give(0, 0, 0, 0)]
        self.assertEqual(firsts(*calls, fc_give(0, 0, 0, 1)), [0, -22, -22, -22, -22, -28])

    def test_the_number_is_answered_modulo(self):
        for given, answer in (
            (2 ** 31 - 1, 2 ** 31 - 1),
            (2 ** 31, 0),
            (2 ** 31 + 1, 1),
            (2 ** 32 - 2, 2 ** 31 - 2),
        ):
            octets = kept(right=kinds(9), given={2: given})
            answered = ask(fc_load(0, octets), fc_give(0, 2, 4, 3), fc_save(0), fc_say(0, 2))
            with self.subTest(given=given):
                self.assertEqual(answered[1], [answer])
                self.assertEqual(
                    answered[2],
                    [0] + kept(right=kinds(9, k4=6), given={2: given + 1}, gifts=[(2, 4, given, 3)]),
                )
                self.assertEqual(answered[3], [0] + letter(0, 2, gift=(4, given, 3)))

    def test_the_last_gift_that_can_be_taken(self):
        octets = kept(taken={1: GREATEST_WORD - 1, 2: GREATEST_WORD})
        answered = ask(
            fc_load(0, octets),
            fc_heard(0, letter(2, 0, gift=(0, GREATEST_WORD, 5), caught=kinds(3))),
            fc_say(0, 2),
            fc_heard(0, letter(1, 0, gift=(0, GREATEST_WORD, 5))),
            fc_heard(0, letter(1, 0, gift=(0, GREATEST_WORD - 1, 5))),
            fc_heard(0, letter(1, 0, gift=(0, GREATEST_WORD - 1, 5))),
            fc_heard(0, letter(1, 0, gift=(0, GREATEST_WORD, 5))),
            fc_save(0),
            fc_say(0, 1),
        )
        self.assertEqual(answered[1:7], [[0], [0] + letter(0, 2, took=GREATEST_WORD), [0], [1], [0], [0]])
        self.assertEqual(answered[7], [0] + kept(
            right=kinds(k0=5),
            taken={1: GREATEST_WORD, 2: GREATEST_WORD},
            known={2: kinds(3)},
        ))
        self.assertEqual(answered[8], [0] + letter(0, 1, took=GREATEST_WORD))

    def test_caught_stays_below_the_limit(self):
        for kind in range(8):
            name = f"k{kind}"
            octets = kept(right=kinds(20), caught=kinds(**{name: LIMIT - 5}))
            answered = ask(
                fc_load(0, octets),
                fc_haul(0, kinds(1, **{name: 21})),
                fc_haul(0, kinds(1, **{name: 20})),
                fc_haul(0, kinds(1, **{name: 5})),
                fc_say(0, 1),
                fc_haul(0, kinds(1, **{name: 4})),
                fc_haul(0, kinds(**{name: 1})),
                fc_state(0, kind),
                fc_save(0),
            )
            with self.subTest(kind=kind):
                self.assertEqual(answered[1:4], [[-28], [-75], [-75]])
                self.assertEqual(answered[4], [0] + letter(0, 1, caught=kinds(**{name: LIMIT - 5})))
                self.assertEqual(answered[5:8], [[0], [-75], [0, 16, LIMIT - 1, 0, LIMIT - 1]])
                self.assertEqual(
                    answered[8],
                    [0] + kept(right=kinds(19, **{name: 16}), caught=kinds(1, **{name: LIMIT - 1})),
                )

    def test_of_both_refusals_of_a_haul_the_first_told_is_answered(self):
        for much, short in ((0, 7), (7, 0), (3, 3)):
            octets = kept(right=kinds(5), caught=kinds(**{f"k{much}": LIMIT - 1}))
            units = kinds()
            units[much] = 1
            units[short] = 6
            with self.subTest(much=much, short=short):
                self.assertEqual(firsts(fc_load(0, octets), fc_haul(0, units)), [0, -28])

    def test_the_right_stays_below_the_limit(self):
        octets = kept(right=kinds(LIMIT - 3))
        gift = letter(1, 0, gift=(6, 0, 3))
        calls = [fc_load(0, octets), fc_heard(0, gift), fc_haul(0, kinds(1)), fc_heard(0, gift), fc_state(0, 6)]
        self.assertEqual(ask(*calls)[1:], [[0], [0], [1], [0, LIMIT - 1, 1, 0, 1]])

    def test_gifts_that_were_kept_are_said_in_their_order(self):
        octets = kept(gifts=[(2, 1, 7, 5), (1, 2, 9, 6), (1, 3, 4, 8)])
        answered = ask(
            fc_load(0, octets),
            fc_say(0, 1),
            fc_say(0, 2),
            fc_heard(0, letter(1, 0, took=5)),
            fc_say(0, 1),
            fc_save(0),
            fc_heard(0, letter(1, 0, took=10)),
            fc_say(0, 1),
        )
        self.assertEqual(answered[1], [0] + letter(0, 1, gift=(2, 9, 6)))
        self.assertEqual(answered[2], [0] + letter(0, 2, gift=(1, 7, 5)))
        self.assertEqual(answered[4], [0] + letter(0, 1, gift=(2, 9, 6)))
        self.assertEqual(answered[5], [0] + kept(gifts=[(2, 1, 7, 5), (1, 2, 9, 6)]))
        self.assertEqual(answered[7], [0] + letter(0, 1))

    def test_64_gifts_that_were_kept_leave_no_room(self):
        gifts = [(1, 0, number, 1) for number in range(64)]
        octets = kept(right=kinds(9), given={1: 64}, gifts=gifts)
        calls = [fc_load(0, octets), fc_give(0, 2, 0, 1), fc_heard(0, letter(1, 0, took=1)), fc_give(0, 2, 0, 1)]
        self.assertEqual(firsts(*calls, fc_give(0, 1, 0, 1)), [0, -28, 0, 0, -28])


if __name__ == "__main__":
    unittest.main()
