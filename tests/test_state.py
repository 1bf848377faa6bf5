"""Promise 7: fc_state."""

import unittest

from tests.helper import BUSY_ANSWERS, GREATEST_WORD, LIMIT
from tests.helper import ask, busy_calls, busy_kept, fc_give, fc_haul, fc_heard, fc_load, fc_save, fc_say, fc_start
from tests.helper import fc_state, firsts, kept, kinds, letter


class StateRefusals(unittest.TestCase):
    def test_kind_is_7_at_most(self):
        for kind in (8, 9, 255, 256, 2 ** 31, GREATEST_WORD):
            with self.subTest(kind=kind):
                self.assertEqual(ask(fc_start(0, 0, 16, kinds(5)), fc_state(0, kind)), [[0], [-22]])
        self.assertEqual(ask(fc_start(0, 0, 2, kinds(k7=5)), fc_state(0, 7)), [[0], [0, 5, 0, 0, 0]])


class StateAnswers(unittest.TestCase):
    def test_a_new_ship(self):
        calls = [fc_start(0, 0, 2, [1, 2, 3, 4, 5, 6, 7, LIMIT - 1])] + [fc_state(0, kind) for kind in range(8)]
        rows = [[0, right, 0, 0, 0] for right in (1, 2, 3, 4, 5, 6, 7, LIMIT - 1)]
        self.assertEqual(ask(*calls), [[0]] + rows)

    def test_a_ship_that_hauled_gave_took_and_heard(self):
        answered = ask(*busy_calls(), *[fc_state(0, kind) for kind in range(8)])
        self.assertEqual([answer[0] for answer in answered[:9]], BUSY_ANSWERS)
        self.assertEqual(answered[9:], [
            [0, 49, 1, 50, 33],
            [0, 198, 2, 0, 34],
            [0, 247, 3, 20, 36],
            [0, 396, 4, 0, 36],
            [0, 495, 5, 0, 37],
            [0, 1594, 6, 0, 38],
            [0, 2693, 7, 0, 39],
            [0, 752, 8, 40, 40],
        ])

    def test_a_haul_is_seen_at_once_and_a_refused_one_never(self):
        self.assertEqual(
            ask(
                fc_start(0, 0, 2, kinds(10)),
                fc_haul(0, kinds(1, k4=3)),
                fc_state(0, 4),
                fc_haul(0, kinds(1, k0=11)),
                fc_state(0, 4),
            )[2:],
            [[0, 7, 3, 0, 3], [-28], [0, 7, 3, 0, 3]],
        )

    def test_units_out_of_that_kind_to_several_ships(self):
        answered = ask(
            fc_start(0, 3, 5, kinds(1000)),
            fc_give(0, 0, 1, 1),
            fc_give(0, 1, 1, 20),
            fc_give(0, 2, 1, 300),
            fc_give(0, 4, 2, 5),
            fc_give(0, 0, 1, 400),
            fc_give(0, 3, 1, 50),
            fc_give(0, 4, 1, 280),
            *[fc_state(0, kind) for kind in range(4)],
        )
        self.assertEqual(answered[6:8], [[-22], [-28]])
        self.assertEqual(
            answered[8:],
            [[0, 1000, 0, 0, 0], [0, 279, 0, 721, 0], [0, 995, 0, 5, 0], [0, 1000, 0, 0, 0]],
        )

    def test_units_are_out_till_they_are_told_as_taken(self):
        answered = ask(
            fc_start(0, 0, 3, kinds(100)),
            fc_give(0, 1, 6, 1),
            fc_give(0, 1, 6, 20),
            fc_give(0, 2, 6, 30),
            fc_state(0, 6),
            fc_heard(0, letter(1, 0, took=1)),
            fc_state(0, 6),
            fc_heard(0, letter(2, 0, took=1)),
            fc_state(0, 6),
            fc_heard(0, letter(1, 0, took=2)),
            fc_state(0, 6),
        )
        self.assertEqual(answered[4::2], [[0, 49, 0, 51, 0], [0, 49, 0, 50, 0], [0, 49, 0, 20, 0], [0, 49, 0, 0, 0]])

    def test_64_of_the_greatest_gifts(self):
        gifts = [(1 + place % 2, 7, place // 2, GREATEST_WORD) for place in range(64)]
        octets = kept(gifts=gifts, given={1: 32, 2: 32})
        self.assertEqual(
            ask(fc_load(0, octets), fc_state(0, 7), fc_state(0, 6)),
            [[0], [0, 0, 0, 64 * GREATEST_WORD, 0], [0, 0, 0, 0, 0]],
        )

    def test_what_all_ships_are_known_to_have_caught(self):
        calls = [fc_start(0, 2, 4, kinds(100)), fc_haul(0, kinds(1))]
        for sender, caught in ((0, 10), (1, 100), (3, 1000), (0, 20), (1, 90)):
            calls += [fc_heard(0, letter(sender, 2, caught=kinds(caught, k3=0))), fc_state(0, 5), fc_state(0, 3)]
        self.assertEqual(
            [answer[4] for answer in ask(*calls) if len(answer) == 5],
            [11, 1, 111, 1, 1111, 1, 1121, 1, 1121, 1],
        )

    def test_none_that_there_is_not_and_this_one_by_what_it_caught(self):
        known = {ship: [(kind + 1) << (2 * ship) for kind in range(8)] for ship in range(16)}
        for me, ships in ((0, 2), (1, 2), (2, 5), (0, 15), (14, 15), (15, 16), (8, 16)):
            octets = kept(me=me, ships=ships, caught=kinds(LIMIT - 7), known=known)
            others = [ship for ship in range(ships) if ship != me]
            rows = [
                [0, 0, LIMIT - 7, 0, LIMIT - 7 + sum(known[ship][kind] for ship in others)]
                for kind in range(8)
            ]
            with self.subTest(me=me, ships=ships):
                self.assertEqual(ask(fc_load(0, octets), *[fc_state(0, kind) for kind in range(8)]), [[0]] + rows)

    def test_the_greatest_sums(self):
        most = kinds(LIMIT - 1)
        octets = kept(me=3, ships=16, right=most, caught=most, known={ship: most for ship in range(16)})
        self.assertEqual(
            ask(fc_load(0, octets), fc_state(0, 0), fc_state(0, 7)),
            [[0]] + [[0, LIMIT - 1, LIMIT - 1, 0, 16 * (LIMIT - 1)]] * 2,
        )

    def test_it_changes_nothing(self):
        asked = [fc_state(0, kind) for kind in (0, 7, 8, GREATEST_WORD)]
        answered = ask(*busy_calls(), *asked, fc_save(0), *asked, fc_say(0, 0))
        self.assertEqual(answered[len(BUSY_ANSWERS) + 4], [0] + busy_kept())
        self.assertEqual(answered[-1][0], 0)

    def test_it_makes_no_ship_saved(self):
        self.assertEqual(firsts(fc_start(0, 0, 2, kinds()), fc_state(0, 0), fc_say(0, 1)), [0, 0, -16])

    def test_each_object_has_its_own(self):
        calls = [fc_start(number, number, 4, kinds(10 + number)) for number in range(4)]
        calls += [fc_haul(2, kinds(2)), fc_give(1, 0, 0, 3)] + [fc_state(number, 0) for number in range(4)]
        self.assertEqual(ask(*calls)[6:], [[0, 10, 0, 0, 0], [0, 8, 0, 3, 0], [0, 10, 2, 0, 2], [0, 13, 0, 0, 0]])


if __name__ == "__main__":
    unittest.main()
