"""Promise 1: fc_start."""

import unittest

from fleetcatch.fleet import start
from tests.helper import GREATEST_LONG, GREATEST_WORD, LIMIT
from tests.helper import a_ship, ask, fc_give, fc_haul, fc_heard, fc_say, fc_start, firsts, kinds, letter, picture


class StartSizes(unittest.TestCase):
    def test_answers_zero_alone(self):
        self.assertEqual(ask(fc_start(0, 0, 2, kinds(5))), [[0]])

    def test_ships_is_2_to_16(self):
        for ships, answer in ((0, -22), (1, -22), (2, 0), (3, 0), (15, 0), (16, 0), (17, -22), (256, -22)):
            with self.subTest(ships=ships):
                self.assertEqual(ask(fc_start(0, 0, ships, kinds(5))), [[answer]])

    def test_me_is_below_ships(self):
        for ships in (2, 3, 16):
            for me, answer in ((0, 0), (ships - 1, 0), (ships, -22), (ships + 1, -22)):
                with self.subTest(ships=ships, me=me):
                    self.assertEqual(ask(fc_start(0, me, ships, kinds(5))), [[answer]])

    def test_each_right_is_below_the_limit(self):
        for kind in range(8):
            for right, answer in ((0, 0), (LIMIT - 1, 0), (LIMIT, -22), (LIMIT + 1, -22)):
                with self.subTest(kind=kind, right=right):
                    self.assertEqual(ask(fc_start(0, 1, 2, kinds(3, **{f"k{kind}": right}))), [[answer]])

    def test_greatest_arguments(self):
        self.assertEqual(ask(fc_start(0, GREATEST_WORD, 2, kinds())), [[-22]])
        self.assertEqual(ask(fc_start(0, 0, GREATEST_WORD, kinds())), [[-22]])
        self.assertEqual(ask(fc_start(0, 0, 2, kinds(GREATEST_LONG))), [[-22]])
        self.assertEqual(ask(fc_start(0, 0, 2, kinds(k7=GREATEST_LONG))), [[-22]])
        self.assertEqual(ask(fc_start(3, GREATEST_WORD, GREATEST_WORD, kinds(GREATEST_LONG))), [[-22]])
        self.assertEqual(ask(fc_start(0, 15, 16, kinds(LIMIT - 1))), [[0]])

    def test_a_start_after_a_refused_one(self):
        self.assertEqual(ask(fc_start(0, 2, 2, kinds(5)), fc_start(0, 1, 2, kinds(5))), [[-22], [0]])


class StartedShip(unittest.TestCase):
    def test_what_a_new_ship_has(self):
        objects = [None] * 4
        self.assertEqual(start(objects, [2, 1, 3], [1, 2, 3, 4, 5, 6, 7, 8]), 0)
        self.assertEqual(picture(objects[2]), {
            "me": 1,
            "ships": 3,
            "right": [1, 2, 3, 4, 5, 6, 7, 8],
            "caught": [0] * 8,
            "out": [],
            "given": [0] * 16,
            "taken": [0] * 16,
            "known": [[0] * 8] * 16,
            "saved": False,
        })
        self.assertEqual([objects[0], objects[1], objects[3]], [None, None, None])

    def test_the_rights_are_those_kinds(self):
        right = [10, 20, 30, 40, 50, 60, 70, 80]
        for kind in range(8):
            over = list(right)
            over[kind] += 1
            with self.subTest(kind=kind):
                self.assertEqual(firsts(fc_start(0, 0, 2, right), fc_haul(0, over), fc_haul(0, right)), [0, -28, 0])

    def test_it_is_not_saved(self):
        self.assertEqual(ask(fc_start(0, 0, 2, kinds(5)), fc_say(0, 1)), [[0], [-16]])


class StartAgain(unittest.TestCase):
    def refused(self):
        return (
            fc_start(0, 0, 1, kinds(9)),
            fc_start(0, 0, 17, kinds(9)),
            fc_start(0, 4, 4, kinds(9)),
            fc_start(0, 0, 2, kinds(9, k5=LIMIT)),
        )

    def test_a_refused_start_leaves_all(self):
        for again in self.refused():
            with self.subTest(again=again[:4]):
                self.assertEqual(
                    firsts(
                        fc_start(0, 1, 3, kinds(10)),
                        fc_haul(0, kinds(4)),
                        fc_give(0, 2, 0, 1),
                        fc_heard(0, letter(2, 1, gift=(1, 0, 5))),
                        again,
                        fc_heard(0, letter(2, 1, gift=(1, 0, 5))),
                        fc_give(0, 2, 0, 1),
                        fc_give(0, 1, 0, 1),
                        fc_haul(0, kinds(6)),
                        fc_haul(0, kinds(6, k0=4, k1=12)),
                        fc_haul(0, kinds(6, k0=4, k1=11)),
                    ),
                    [0, 0, 0, 1, -22, 0, 1, -22, -28, -28, 0],
                )

    def test_a_refused_start_leaves_the_very_ship(self):
        ship = a_ship(me=1, saved=True)
        before = picture(ship)
        objects = [ship, None, None, None]
        self.assertEqual(start(objects, [0, 3, 3], kinds(7)), -22)
        self.assertIs(objects[0], ship)
        self.assertEqual(picture(ship), before)

    def test_a_start_makes_the_ship_anew(self):
        gift = letter(2, 1, gift=(1, 0, 5))
        self.assertEqual(
            firsts(
                fc_start(0, 1, 3, kinds(10)),
                fc_haul(0, kinds(4)),
                fc_give(0, 2, 0, 1),
                fc_heard(0, gift),
                fc_start(0, 1, 3, kinds(7)),
                fc_heard(0, gift),
                fc_give(0, 2, 0, 1),
                fc_haul(0, kinds(7, k0=6, k1=13)),
                fc_haul(0, kinds(7, k0=6, k1=12)),
                fc_start(0, 0, 2, kinds(7)),
                fc_heard(0, gift),
                fc_give(0, 2, 0, 1),
                fc_give(0, 1, 0, 1),
            ),
            [0, 0, 0, 1, 0, 1, 0, -28, 0, 0, -71, -22, 0],
        )

    def test_a_start_ends_the_gifts_that_were_out(self):
        calls = [fc_start(0, 0, 2, kinds(100))] + [fc_give(0, 1, 0, 1)] * 65
        calls += [fc_start(0, 0, 2, kinds(100))] + [fc_give(0, 1, 0, 1)] * 65
        row = [0] + list(range(64)) + [-28]
        self.assertEqual(firsts(*calls), row + row)

    def test_nothing_of_a_used_ship_stays(self):
        ship = a_ship(saved=True)
        ship.haul(kinds(1))
        ship.give(1, 2, 3)
        ship.heard(letter(1, 0, gift=(0, 0, 1), caught=kinds(5)))
        ship.saved = True
        objects = [ship, None, None, None]
        self.assertEqual(start(objects, [0, 0, 3], kinds(8)), 0)
        self.assertEqual(picture(objects[0]), picture(a_ship(right=8)))


if __name__ == "__main__":
    unittest.main()
