"""Promise 2: fc_haul."""

import unittest

from tests.helper import GREATEST_WORD, LIMIT
from tests.helper import a_ship, ask, changed, fc_haul, fc_heard, fc_say, fc_start, firsts, kinds, letter, picture


class HaulAnswers(unittest.TestCase):
    def test_answers_zero_alone(self):
        self.assertEqual(ask(fc_start(0, 0, 2, kinds(5)), fc_haul(0, kinds(2))), [[0], [0]])

    def test_units_equal_to_the_right_and_one_more(self):
        for kind in range(8):
            name = f"k{kind}"
            with self.subTest(kind=kind):
                self.assertEqual(
                    firsts(
                        fc_start(0, 0, 2, kinds(5)),
                        fc_haul(0, kinds(**{name: 6})),
                        fc_haul(0, kinds(**{name: 5})),
                        fc_haul(0, kinds(**{name: 1})),
                        fc_haul(0, kinds()),
                        fc_haul(0, kinds(5, **{name: 0})),
                        fc_haul(0, kinds()),
                    ),
                    [0, -28, 0, -28, 0, 0, 0],
                )

    def test_the_rights_are_less_by_what_is_hauled(self):
        self.assertEqual(
            firsts(
                fc_start(0, 0, 2, [1, 2, 3, 4, 5, 6, 7, 8]),
                fc_haul(0, [1, 1, 1, 1, 1, 1, 1, 1]),
                fc_haul(0, [1, 0, 0, 0, 0, 0, 0, 0]),
                fc_haul(0, [0, 1, 2, 3, 4, 5, 6, 8]),
                fc_haul(0, [0, 1, 2, 3, 4, 5, 6, 7]),
                fc_haul(0, [0, 0, 0, 0, 0, 0, 0, 1]),
            ),
            [0, 0, -28, -28, 0, -28],
        )

    def test_greatest_units(self):
        most = kinds(GREATEST_WORD)
        self.assertEqual(firsts(fc_start(0, 0, 2, most), fc_haul(0, most), fc_haul(0, most)), [0, 0, -28])
        self.assertEqual(firsts(fc_start(0, 0, 2, kinds()), fc_haul(0, most)), [0, -28])

    def test_a_taken_gift_can_be_hauled(self):
        self.assertEqual(
            firsts(
                fc_start(0, 0, 2, kinds()),
                fc_haul(0, kinds(k6=3)),
                fc_heard(0, letter(1, 0, gift=(6, 0, 3))),
                fc_haul(0, kinds(k6=4)),
                fc_haul(0, kinds(k6=3)),
            ),
            [0, -28, 1, -28, 0],
        )

    def test_the_ship_is_not_saved_behind_a_haul(self):
        self.assertEqual(firsts(fc_start(0, 0, 2, kinds(5)), fc_haul(0, kinds()), fc_say(0, 1)), [0, 0, -16])


class HaulState(unittest.TestCase):
    def test_caught_and_rights(self):
        ship = a_ship(right=[10, 20, 30, 40, 50, 60, 70, 80], saved=True)
        before = picture(ship)
        self.assertEqual(ship.haul([1, 2, 3, 4, 5, 6, 7, 80]), 0)
        self.assertEqual(ship.haul([1, 0, 0, 0, 0, 0, 0, 0]), 0)
        self.assertEqual(picture(ship), changed(
            before,
            right=[8, 18, 27, 36, 45, 54, 63, 0],
            caught=[2, 2, 3, 4, 5, 6, 7, 80],
            saved=False,
        ))

    def test_a_haul_of_nothing_is_a_haul(self):
        ship = a_ship(saved=True)
        before = picture(ship)
        self.assertEqual(ship.haul(kinds()), 0)
        self.assertEqual(picture(ship), changed(before, saved=False))

    def test_a_refusal_leaves_every_kind(self):
        for kind in range(8):
            ship = a_ship(right=10, saved=True)
            before = picture(ship)
            with self.subTest(kind=kind):
                self.assertEqual(ship.haul(kinds(3, **{f"k{kind}": 11})), -28)
                self.assertEqual(picture(ship), before)

    def test_caught_stays_below_the_limit(self):
        for kind in range(8):
            name = f"k{kind}"
            ship = a_ship(right=10, saved=True)
            ship.caught[kind] = LIMIT - 5
            before = picture(ship)
            with self.subTest(kind=kind):
                self.assertEqual(ship.haul(kinds(2, **{name: 6})), -75)
                self.assertEqual(ship.haul(kinds(2, **{name: 5})), -75)
                self.assertEqual(picture(ship), before)
                self.assertEqual(ship.haul(kinds(2, **{name: 4})), 0)
                self.assertEqual(ship.caught, kinds(2, **{name: LIMIT - 1}))
                self.assertEqual(ship.right, kinds(8, **{name: 6}))
                self.assertEqual(ship.haul(kinds(**{name: 1})), -75)
                self.assertEqual(ship.haul(kinds()), 0)

    def test_of_both_refusals_the_first_told_is_answered(self):
        for caught_much, right_short in ((0, 7), (7, 0), (3, 3)):
            ship = a_ship(right=10, saved=True)
            ship.caught[caught_much] = LIMIT - 1
            units = kinds()
            units[caught_much] = 1
            units[right_short] = 11
            before = picture(ship)
            with self.subTest(caught_much=caught_much, right_short=right_short):
                self.assertEqual(ship.haul(units), -28)
                self.assertEqual(picture(ship), before)

    def test_the_units_handed_in_stay(self):
        ship = a_ship()
        units = kinds(3)
        ship.haul(units)
        ship.haul(units)
        self.assertEqual(units, kinds(3))


if __name__ == "__main__":
    unittest.main()
