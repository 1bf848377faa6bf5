"""The interface: calls in one list, objects, answers in one list, and nothing kept."""

import contextlib
import io
import unittest

from fleetcatch.fleet import answers
from tests.helper import GREATEST_WORD, KEPT_SIZE
from tests.helper import ask, busy_calls, busy_kept, fc_give, fc_haul, fc_heard, fc_load, fc_of, fc_save, fc_say
from tests.helper import fc_start, fc_state, kept, kinds, letter


class Unchangeable(list):
    """A list that tells of every try to change it."""

    def refuse(self, *arguments):
        raise AssertionError("the list handed in was changed")

    __setitem__ = __delitem__ = __iadd__ = __imul__ = refuse
    append = clear = extend = insert = pop = remove = reverse = sort = refuse


def many_calls():
    """Calls of all nine sorts on all four objects, refused ones among them."""
    calls = []
    for number in range(4):
        calls += fc_start(number, number, 4, kinds(10 * (number + 1)))
    for number in range(4):
        other = (number + 1) % 4
        calls += fc_start(number, 4, 4, kinds(1))
        calls += fc_haul(number, kinds(number + 1))
        calls += fc_haul(number, kinds(GREATEST_WORD))
        calls += fc_give(number, other, number, 2)
        calls += fc_give(number, number, number, 2)
        calls += fc_say(number, other)
        calls += fc_say(number, number)
        calls += fc_heard(number, letter(other, number, gift=(number, 0, 5), caught=kinds(number)))
        calls += fc_heard(number, [0] * 84)
        calls += fc_of(number, other)
        calls += fc_of(number, 4)
        calls += fc_state(number, number)
        calls += fc_state(number, 8)
        calls += fc_save(number)
        calls += fc_say(number, other)
        calls += fc_load(number, busy_kept() if number % 2 else [0] * KEPT_SIZE)
        calls += fc_of(number, 1)
    return calls


def many_answers():
    answered = [1, 0] * 4
    for number in range(4):
        other = (number + 1) % 4
        right = 10 * (number + 1)
        haul = kinds(number + 1)
        answered += [1, -22, 1, 0, 1, -28, 1, 0, 1, -22, 1, -16, 1, -22, 1, 1, 1, -71]
        answered += [9, 0] + kinds(number) + [1, -22]
        left = right - (number + 1) - 2 + 5
        answered += [5, 0, left, number + 1, 2, 2 * number + 1] + [1, -22]
        answered += [2057, 0] + kept(
            me=number,
            ships=4,
            right=kinds(right - (number + 1), **{f"k{number}": left}),
            caught=haul,
            given={other: 1},
            taken={other: 1},
            gifts=[(other, number, 0, 2)],
            known={other: kinds(number)},
        )
        answered += [85, 0] + letter(number, other, took=1, gift=(number, 0, 2), caught=haul)
        if number % 2:
            answered += [1, 0, 9, 0, 1, 2, 3, 4, 5, 6, 7, 8]
        else:
            answered += [1, -71, 9, 0] + kinds(number if other == 1 else 0)
    return answered


MANY_ANSWERS = many_answers()


class Layout(unittest.TestCase):
    def test_a_count_stands_before_each_answer(self):
        self.assertEqual(answers([0, 0, 0, 2, 8, 1, 2, 3, 4, 5, 6, 7, 8]), [1, 0])
        self.assertEqual(
            answers(
                [0, 3, 1, 2, 8, 9, 9, 9, 9, 9, 9, 9, 9]
                + [1, 3, 8, 1, 1, 1, 1, 1, 1, 1, 1]
                + [2, 3, 0, 7, 8]
                + [2, 3, 0, 7, 1]
                + [3, 3, 0]
                + [3, 3, 1]
                + [4, 3, 84] + [0] * 84
            ),
            [1, 0, 1, 0, 1, 0, 1, -28, 1, -16, 1, -22, 1, -71],
        )

    def test_the_calls_that_ask_save_and_load(self):
        octets = kept(me=1, ships=2, right=kinds(9), known={0: kinds(4)})
        self.assertEqual(
            answers(
                [8, 2, 2056] + octets
                + [5, 2, 0]
                + [5, 2, 2]
                + [6, 2, 7]
                + [6, 2, 8]
                + [7, 2]
                + [3, 2, 0]
                + [8, 2, 2056] + [0] * 2056
            ),
            [1, 0]
            + [9, 0, 4, 4, 4, 4, 4, 4, 4, 4]
            + [1, -22]
            + [5, 0, 9, 0, 0, 4]
            + [1, -22]
            + [2057, 0] + octets
            + [85, 0] + letter(1, 0)
            + [1, -71],
        )

    def test_every_sort_of_call(self):
        self.assertEqual(answers(many_calls()), MANY_ANSWERS)

    def test_the_answers_are_a_list_of_whole_numbers(self):
        answered = answers(many_calls())
        self.assertIs(type(answered), list)
        self.assertEqual({type(number) for number in answered}, {int})

    def test_400_calls(self):
        calls = [fc_start(0, 0, 2, kinds(1000))] + [fc_give(0, 1, 0, 1)] * 63 + [fc_haul(0, kinds(1))] * 336
        self.assertEqual(ask(*calls), [[0]] + [[number] for number in range(63)] + [[0]] * 336)

    def test_close_to_16000_numbers(self):
        calls = fc_start(0, 0, 2, kinds())
        messages = (16000 - len(calls)) // 87
        for number in range(messages):
            calls += fc_heard(0, letter(1, 0, gift=(0, number, 1)))
        self.assertEqual(answers(calls), [1, 0] + [1, 1] * messages)

    def test_close_to_16000_numbers_of_loads(self):
        octets = [kept(me=number, ships=4, right=kinds(number)) for number in range(4)]
        calls = [fc_load(number, octets[number]) for number in range(4)]
        calls += [fc_load(3 - number, octets[number]) for number in range(3)]
        calls += [fc_save(number) for number in range(4)]
        while sum(len(call) for call in calls) + 87 <= 16000:
            calls.append(fc_heard(1, letter(3, 2, gift=(0, 0, 1))))
        answered = ask(*calls)
        self.assertEqual(answered[:7], [[0]] * 7)
        self.assertEqual(answered[7:11], [[0] + octets[number] for number in (0, 2, 1, 0)])
        self.assertEqual(answered[11:], [[1]] + [[0]] * (len(calls) - 12))

    def test_400_calls_of_all_nine_sorts(self):
        octets = kept(me=0, ships=2, right=kinds(50))
        calls = [fc_load(0, octets), fc_start(1, 1, 2, kinds(50))]
        expected = [[0], [0]]
        while len(calls) + 9 <= 398:
            number = len(calls) // 9
            calls += [fc_of(0, 1), fc_of(1, 2), fc_state(0, 7), fc_state(1, 8), fc_haul(1, kinds(51))]
            calls += [fc_save(0), fc_say(0, 1), fc_give(1, 0, 0, 1), fc_say(1, 0)]
            expected += [[0] + kinds(), [-22], [0, 50, 0, 0, 0], [-22], [-28]]
            expected += [[0] + octets, [0] + letter(0, 1), [number], [-16]]
        calls += [fc_heard(0, letter(1, 0))] * (400 - len(calls))
        expected += [[0]] * (400 - len(expected))
        self.assertEqual(ask(*calls), expected)

    def test_400_saves(self):
        octets = kept(me=0, ships=2, right=kinds(50))
        calls = [fc_start(0, 0, 2, kinds(50))] + [fc_save(0)] * 399
        self.assertEqual(ask(*calls), [[0]] + [[0] + octets] * 399)


class Objects(unittest.TestCase):
    def test_each_has_its_own_state(self):
        calls = [fc_start(number, 0, 3, kinds(10 + number)) for number in range(4)]
        calls += [fc_haul(number, kinds(11)) for number in range(4)]
        calls += [fc_give(2, 1, 0, 1), fc_give(1, 1, 0, 1), fc_give(2, 1, 0, 1), fc_give(3, 1, 0, 1)]
        calls += [fc_heard(number, letter(1, 0, gift=(0, 0, 4))) for number in (0, 3, 0, 2)]
        calls += [fc_start(3, 0, 4, kinds(2)), fc_give(3, 3, 0, 2), fc_give(2, 3, 0, 1)]
        self.assertEqual(
            [answer for (answer,) in ask(*calls)],
            [0, 0, 0, 0] + [-28, 0, 0, 0] + [0, -28, -28, 0] + [1, 1, 0, 1] + [0, 0, -22],
        )

    def test_an_object_is_not_a_ship_number(self):
        self.assertEqual(ask(fc_start(0, 7, 9, kinds(5)), fc_give(0, 0, 0, 1), fc_give(0, 7, 0, 1)), [[0], [0], [-22]])

    def test_four_objects_are_asked_in_turn(self):
        rows = [busy_calls(number) + [fc_save(number)] for number in range(4)]
        calls = [row[place] for place in range(len(rows[0])) for row in rows]
        self.assertEqual(ask(*calls)[-4:], [[0] + busy_kept()] * 4)

    def test_a_refused_load_touches_no_object(self):
        calls = [*busy_calls(1), fc_save(1), fc_load(0, [0] * KEPT_SIZE), fc_load(1, [0] * KEPT_SIZE), fc_save(1)]
        self.assertEqual(ask(*calls)[-3:], [[-71], [-71], [0] + busy_kept()])

    def test_a_refused_start_touches_no_other_object(self):
        calls = (fc_start(1, 0, 2, kinds(5)), fc_start(0, 2, 2, kinds(9)), fc_haul(1, kinds(6)), fc_haul(1, kinds(5)))
        self.assertEqual(ask(*calls), [[0], [-22], [-28], [0]])


class NothingKept(unittest.TestCase):
    def test_two_times_alike(self):
        calls = many_calls()
        self.assertEqual(answers(calls), answers(calls))

    def test_objects_are_new_each_time(self):
        first = fc_start(0, 0, 2, kinds(5)) + fc_give(0, 1, 0, 5)
        self.assertEqual([answers(first), answers(first)], [[1, 0, 1, 0]] * 2)

    def test_what_is_handed_in_is_not_changed(self):
        calls = many_calls()
        copy = list(calls)
        answers(calls)
        self.assertEqual(calls, copy)
        self.assertEqual(answers(Unchangeable(calls)), MANY_ANSWERS)

    def test_what_is_given_back_is_new(self):
        calls = many_calls()
        answered = answers(calls)
        answered.clear()
        self.assertEqual(answers(calls), MANY_ANSWERS)

    def test_nothing_is_printed(self):
        said = io.StringIO()
        with contextlib.redirect_stdout(said), contextlib.redirect_stderr(said):
            answers(many_calls())
        self.assertEqual(said.getvalue(), "")


if __name__ == "__main__":
    unittest.main()
