"""Promise 6: fc_of."""

import unittest

from tests.helper import BUSY_ANSWERS, GREATEST_WORD, LIMIT
from tests.helper import ask, busy_calls, busy_kept, fc_give, fc_haul, fc_heard, fc_load, fc_of, fc_save, fc_say
from tests.helper import fc_start, firsts, kept, kinds, letter

REFUSED = [-22]


class OfRefusals(unittest.TestCase):
    def test_ship_is_below_ships(self):
        for ships in (2, 3, 15, 16):
            for ship in (ships, ships + 1, 255, 256, 2 ** 31, GREATEST_WORD):
                with self.subTest(ships=ships, ship=ship):
                    self.assertEqual(ask(fc_start(0, 0, ships, kinds(5)), fc_of(0, ship)), [[0], REFUSED])
            with self.subTest(ships=ships):
                self.assertEqual(ask(fc_start(0, 0, ships, kinds(5)), fc_of(0, ships - 1)), [[0], [0] + kinds()])

    def test_a_ship_that_there_is_not_though_something_is_kept_of_it(self):
        octets = kept(me=0, ships=2, known={2: kinds(5), 15: kinds(6)})
        self.assertEqual(
            ask(fc_load(0, octets), fc_of(0, 1), fc_of(0, 2), fc_of(0, 15), fc_of(0, 16)),
            [[0], [0] + kinds(), REFUSED, REFUSED, REFUSED],
        )


class OfAnswers(unittest.TestCase):
    def test_a_new_ship_knows_of_nothing(self):
        calls = [fc_start(0, 1, 16, kinds(5))] + [fc_of(0, ship) for ship in range(16)]
        self.assertEqual(ask(*calls), [[0]] + [[0] + kinds()] * 16)

    def test_of_this_ship_what_it_caught(self):
        self.assertEqual(
            ask(
                fc_start(0, 2, 3, kinds(100)),
                fc_haul(0, [1, 2, 3, 4, 5, 6, 7, 8]),
                fc_of(0, 2),
                fc_haul(0, [10, 0, 0, 0, 0, 0, 0, 20]),
                fc_haul(0, kinds(101)),
                fc_of(0, 2),
                fc_of(0, 0),
                fc_of(0, 1),
            )[1:],
            [
                [0],
                [0, 1, 2, 3, 4, 5, 6, 7, 8],
                [0],
                [-28],
                [0, 11, 2, 3, 4, 5, 6, 7, 28],
                [0] + kinds(),
                [0] + kinds(),
            ],
        )

    def test_of_another_what_it_is_known_to_have_caught(self):
        answered = ask(
            fc_start(0, 1, 4, kinds(100)),
            fc_haul(0, kinds(9)),
            fc_heard(0, letter(0, 1, caught=[1, 2, 3, 4, 5, 6, 7, LIMIT - 1])),
            fc_heard(0, letter(3, 1, caught=kinds(30))),
            fc_of(0, 0),
            fc_of(0, 1),
            fc_of(0, 2),
            fc_of(0, 3),
            fc_heard(0, letter(0, 1, caught=[2, 1, 9, 4, 0, 6, 8, 0])),
            fc_of(0, 0),
            fc_of(0, 3),
        )
        self.assertEqual(answered[4:8], [
            [0, 1, 2, 3, 4, 5, 6, 7, LIMIT - 1],
            [0] + kinds(9),
            [0] + kinds(),
            [0] + kinds(30),
        ])
        self.assertEqual(answered[9:], [[0, 2, 2, 9, 4, 5, 6, 8, LIMIT - 1], [0] + kinds(30)])

    def test_a_refused_message_tells_nothing(self):
        self.assertEqual(
            ask(
                fc_start(0, 0, 2, kinds()),
                fc_heard(0, letter(1, 0, caught=kinds(5), fourth=1)),
                fc_heard(0, letter(0, 1, caught=kinds(6))),
                fc_of(0, 0),
                fc_of(0, 1),
            ),
            [[0], [-71], [-71], [0] + kinds(), [0] + kinds()],
        )

    def test_of_a_loaded_ship(self):
        known = {ship: [ship * 10 + kind for kind in range(8)] for ship in range(16)}
        for me in (0, 7, 15):
            octets = kept(me=me, ships=16, caught=kinds(LIMIT - 1), known=known)
            rows = [[0] + (kinds(LIMIT - 1) if ship == me else known[ship]) for ship in range(16)]
            with self.subTest(me=me):
                self.assertEqual(ask(fc_load(0, octets), *[fc_of(0, ship) for ship in range(16)]), [[0]] + rows)

    def test_what_the_bytes_hold_for_this_ship_is_not_what_it_caught(self):
        octets = kept(me=1, ships=2, caught=kinds(3), known={1: kinds(77)})
        self.assertEqual(ask(fc_load(0, octets), fc_of(0, 1)), [[0], [0] + kinds(3)])

    def test_gifts_are_no_catch(self):
        self.assertEqual(
            ask(
                fc_start(0, 0, 2, kinds(10)),
                fc_give(0, 1, 0, 4),
                fc_heard(0, letter(1, 0, gift=(0, 0, 3))),
                fc_of(0, 0),
                fc_of(0, 1),
            )[3:],
            [[0] + kinds(), [0] + kinds()],
        )

    def test_it_changes_nothing(self):
        asked = [fc_of(0, ship) for ship in (0, 1, 2, 3, GREATEST_WORD)]
        answered = ask(*busy_calls(), *asked, fc_save(0), *asked, fc_say(0, 0))
        self.assertEqual(answered[len(BUSY_ANSWERS) + 5], [0] + busy_kept())
        self.assertEqual(answered[-1][0], 0)

    def test_it_makes_no_ship_saved(self):
        self.assertEqual(firsts(fc_start(0, 0, 2, kinds()), fc_of(0, 0), fc_of(0, 1), fc_say(0, 1)), [0, 0, 0, -16])

    def test_each_object_knows_for_itself(self):
        self.assertEqual(
            ask(
                fc_start(0, 0, 2, kinds()),
                fc_start(1, 0, 2, kinds()),
                fc_heard(1, letter(1, 0, caught=kinds(5))),
                fc_of(0, 1),
                fc_of(1, 1),
            )[3:],
            [[0] + kinds(), [0] + kinds(5)],
        )


if __name__ == "__main__":
    unittest.main()
