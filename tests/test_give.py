"""Promise 3: fc_give."""

import unittest

from tests.helper import GREATEST_WORD, LIMIT
from tests.helper import a_ship, ask, changed, fc_give, fc_haul, fc_heard, fc_say, fc_start, firsts, gifts_out
from tests.helper import kinds, letter, picture


class GiveRefusals(unittest.TestCase):
    def test_not_valid(self):
        wrong = {
            "to is ships": (3, 0, 1),
            "to is above ships": (4, 0, 1),
            "to is the greatest": (GREATEST_WORD, 0, 1),
            "to is this ship": (1, 0, 1),
            "kind is 8": (0, 8, 1),
            "kind is the greatest": (0, GREATEST_WORD, 1),
            "units is 0": (0, 0, 0),
            "all at once": (GREATEST_WORD, GREATEST_WORD, 0),
        }
        for why, arguments in wrong.items():
            ship = a_ship(me=1, ships=3, saved=True)
            before = picture(ship)
            with self.subTest(why):
                self.assertEqual(ask(fc_start(0, 1, 3, kinds(9)), fc_give(0, *arguments)), [[0], [-22]])
                self.assertEqual(ship.give(*arguments), -22)
                self.assertEqual(picture(ship), before)

    def test_units_equal_to_the_right_and_one_more(self):
        for kind in range(8):
            name = f"k{kind}"
            with self.subTest(kind=kind):
                self.assertEqual(
                    firsts(
                        fc_start(0, 0, 2, kinds(50, **{name: 7})),
                        fc_give(0, 1, kind, 8),
                        fc_give(0, 1, kind, 7),
                        fc_give(0, 1, kind, 1),
                        fc_haul(0, kinds(50, **{name: 1})),
                        fc_haul(0, kinds(50, **{name: 0})),
                    ),
                    [0, -28, 0, -28, -28, 0],
                )

    def test_greatest_units(self):
        self.assertEqual(
            firsts(
                fc_start(0, 0, 2, kinds(LIMIT - 1, k1=GREATEST_WORD - 1)),
                fc_give(0, 1, 0, GREATEST_WORD),
                fc_give(0, 1, 1, GREATEST_WORD),
            ),
            [0, 0, -28],
        )

    def test_not_valid_comes_ahead_of_not_enough(self):
        ship = a_ship(me=1, ships=3, right=0, saved=True)
        ship.given = [GREATEST_WORD] * 16
        for arguments in ((3, 0, 1), (1, 0, 1), (0, 8, 1), (0, 0, 0)):
            with self.subTest(arguments):
                self.assertEqual(ship.give(*arguments), -22)
        self.assertEqual(ship.give(0, 0, 1), -28)

    def test_not_valid_comes_ahead_of_64_gifts(self):
        calls = [fc_start(0, 0, 2, kinds(100))] + [fc_give(0, 1, 0, 1)] * 64
        calls += [fc_give(0, 2, 0, 1), fc_give(0, 0, 0, 1), fc_give(0, 1, 8, 1), fc_give(0, 1, 0, 0)]
        self.assertEqual(firsts(*calls)[65:], [-22, -22, -22, -22])

    def test_the_64th_and_the_65th_gift(self):
        calls = [fc_start(0, 0, 2, kinds(100))] + [fc_give(0, 1, 3, 1)] * 66
        self.assertEqual(firsts(*calls), [0] + list(range(64)) + [-28, -28])

    def test_64_gifts_are_counted_over_all_ships(self):
        ship = a_ship(ships=5, saved=True)
        for number in range(64):
            self.assertEqual(ship.give(1 + number % 4, number % 8, 1), number // 4)
        ship.saved = True
        before = picture(ship)
        for to in (1, 2, 3, 4):
            self.assertEqual(ship.give(to, 0, 1), -28)
        self.assertEqual(picture(ship), before)

    def test_a_gift_that_is_out_no_more_makes_room(self):
        calls = [fc_start(0, 0, 2, kinds(100))] + [fc_give(0, 1, 0, 1)] * 64
        calls += [fc_give(0, 1, 0, 1), fc_heard(0, letter(1, 0, took=2))] + [fc_give(0, 1, 0, 1)] * 3
        self.assertEqual(firsts(*calls)[65:], [-28, 0, 64, 65, -28])

    def test_the_last_number(self):
        ship = a_ship(saved=True)
        ship.given[1] = GREATEST_WORD - 1
        self.assertEqual(ship.give(1, 0, 1), (GREATEST_WORD - 1) % 2 ** 31)
        self.assertEqual(gifts_out(ship), [(1, 0, GREATEST_WORD - 1, 1)])
        self.assertEqual(ship.given[1], GREATEST_WORD)
        ship.saved = True
        before = picture(ship)
        self.assertEqual(ship.give(1, 0, 1), -28)
        self.assertEqual(picture(ship), before)
        self.assertEqual(ship.give(2, 0, 1), 0)

    def test_a_refusal_for_want_of_right_leaves_all(self):
        ship = a_ship(right=5, saved=True)
        before = picture(ship)
        self.assertEqual(ship.give(1, 4, 6), -28)
        self.assertEqual(picture(ship), before)


class GiveAnswers(unittest.TestCase):
    def test_numbers_are_counted_for_each_ship(self):
        self.assertEqual(
            ask(
                fc_start(0, 1, 4, kinds(50)),
                fc_give(0, 0, 0, 1),
                fc_give(0, 2, 7, 1),
                fc_give(0, 0, 3, 1),
                fc_give(0, 3, 0, 1),
                fc_give(0, 0, 0, 99),
                fc_give(0, 0, 0, 2),
                fc_give(0, 2, 0, 2),
            ),
            [[0], [0], [0], [1], [0], [-28], [2], [1]],
        )

    def test_the_number_is_answered_modulo(self):
        for given, answer in (
            (2 ** 31 - 1, 2 ** 31 - 1),
            (2 ** 31, 0),
            (2 ** 31 + 5, 5),
            (2 ** 32 - 2, 2 ** 31 - 2),
        ):
            ship = a_ship()
            ship.given[2] = given
            with self.subTest(given=given):
                self.assertEqual(ship.give(2, 0, 1), answer)
                self.assertEqual(gifts_out(ship), [(2, 0, given, 1)])

    def test_what_a_gift_changes(self):
        ship = a_ship(me=2, ships=4, right=[10, 20, 30, 40, 50, 60, 70, 80], saved=True)
        before = picture(ship)
        self.assertEqual(ship.give(3, 1, 20), 0)
        self.assertFalse(ship.saved)
        ship.saved = True
        self.assertEqual(ship.give(0, 7, 5), 0)
        self.assertEqual(ship.give(3, 1, 1), -28)
        self.assertEqual(ship.give(3, 0, 4), 1)
        self.assertEqual(picture(ship), changed(
            before,
            right=[6, 0, 30, 40, 50, 60, 70, 75],
            out=[(3, 1, 0, 20), (0, 7, 0, 5), (3, 0, 1, 4)],
            given=[1, 0, 0, 2] + [0] * 12,
            saved=False,
        ))

    def test_the_ship_is_not_saved_behind_a_gift(self):
        self.assertEqual(firsts(fc_start(0, 0, 2, kinds(5)), fc_give(0, 1, 0, 1), fc_say(0, 1)), [0, 0, -16])


if __name__ == "__main__":
    unittest.main()
