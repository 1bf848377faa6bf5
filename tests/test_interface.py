"""The interface: calls in one list, objects, answers in one list, and nothing kept."""

import contextlib
import io
import unittest

from fleetcatch.fleet import answers
from tests.helper import GREATEST_WORD
from tests.helper import ask, fc_give, fc_haul, fc_heard, fc_say, fc_start, kinds, letter


class Unchangeable(list):
    """A list that tells of every try to change it."""

    def refuse(self, *arguments):
        raise AssertionError("the list handed in was changed")

    __setitem__ = __delitem__ = __iadd__ = __imul__ = refuse
    append = clear = extend = insert = pop = remove = reverse = sort = refuse


def many_calls():
    """Calls of every sort on all four objects, refused ones among them."""
    calls = []
    for number in range(4):
        calls += fc_start(number, number, 4, kinds(10 * (number + 1)))
    for number in range(4):
        other = (number + 1) % 4
        calls += fc_start(number, 4, 4, kinds(1))
        calls += fc_haul(number, kinds(number + 1))
        calls += fc_haul(number, kinds(GREATEST_WORD))
        calls += fc_give(number, other, number, 2)
        calls += fc_give(number, number, number, 2)
        calls += fc_say(number, other)
        calls += fc_say(number, number)
        calls += fc_heard(number, letter(other, number, gift=(number, 0, 5), caught=kinds(number)))
        calls += fc_heard(number, [0] * 84)
    return calls


MANY_ANSWERS = [1, 0] * 4 + [1, -22, 1, 0, 1, -28, 1, 0, 1, -22, 1, -16, 1, -22, 1, 1, 1, -71] * 4


class Layout(unittest.TestCase):
    def test_a_count_stands_before_each_answer(self):
        self.assertEqual(answers([0, 0, 0, 2, 8, 1, 2, 3, 4, 5, 6, 7, 8]), [1, 0])
        self.assertEqual(
            answers(
                [0, 3, 1, 2, 8, 9, 9, 9, 9, 9, 9, 9, 9]
                + [1, 3, 8, 1, 1, 1, 1, 1, 1, 1, 1]
                + [2, 3, 0, 7, 8]
                + [2, 3, 0, 7, 1]
                + [3, 3, 0]
                + [3, 3, 1]
                + [4, 3, 84] + [0] * 84
            ),
            [1, 0, 1, 0, 1, 0, 1, -28, 1, -16, 1, -22, 1, -71],
        )

    def test_every_sort_of_call(self):
        self.assertEqual(answers(many_calls()), MANY_ANSWERS)

    def test_the_answers_are_a_list_of_whole_numbers(self):
        answered = answers(many_calls())
        self.assertIs(type(answered), list)
        self.assertEqual({type(number) for number in answered}, {int})

    def test_400_calls(self):
        calls = [fc_start(0, 0, 2, kinds(1000))] + [fc_give(0, 1, 0, 1)] * 63 + [fc_haul(0, kinds(1))] * 336
        self.assertEqual(ask(*calls), [[0]] + [[number] for number in range(63)] + [[0]] * 336)

    def test_close_to_16000_numbers(self):
        calls = fc_start(0, 0, 2, kinds())
        messages = (16000 - len(calls)) // 87
        for number in range(messages):
            calls += fc_heard(0, letter(1, 0, gift=(0, number, 1)))
        self.assertEqual(answers(calls), [1, 0] + [1, 1] * messages)


class Objects(unittest.TestCase):
    def test_each_has_its_own_state(self):
        calls = [fc_start(number, 0, 3, kinds(10 + number)) for number in range(4)]
        calls += [fc_haul(number, kinds(11)) for number in range(4)]
        calls += [fc_give(2, 1, 0, 1), fc_give(1, 1, 0, 1), fc_give(2, 1, 0, 1), fc_give(3, 1, 0, 1)]
        calls += [fc_heard(number, letter(1, 0, gift=(0, 0, 4))) for number in (0, 3, 0, 2)]
        calls += [fc_start(3, 0, 4, kinds(2)), fc_give(3, 3, 0, 2), fc_give(2, 3, 0, 1)]
        self.assertEqual(
            [answer for (answer,) in ask(*calls)],
            [0, 0, 0, 0] + [-28, 0, 0, 0] + [0, -28, -28, 0] + [1, 1, 0, 1] + [0, 0, -22],
        )

    def test_an_object_is_not_a_ship_number(self):
        self.assertEqual(ask(fc_start(0, 7, 9, kinds(5)), fc_give(0, 0, 0, 1), fc_give(0, 7, 0, 1)), [[0], [0], [-22]])

    def test_a_refused_start_touches_no_other_object(self):
        calls = (fc_start(1, 0, 2, kinds(5)), fc_start(0, 2, 2, kinds(9)), fc_haul(1, kinds(6)), fc_haul(1, kinds(5)))
        self.assertEqual(ask(*calls), [[0], [-22], [-28], [0]])


class NothingKept(unittest.TestCase):
    def test_two_times_alike(self):
        calls = many_calls()
        self.assertEqual(answers(calls), answers(calls))

    def test_objects_are_new_each_time(self):
        first = fc_start(0, 0, 2, kinds(5)) + fc_give(0, 1, 0, 5)
        self.assertEqual([answers(first), answers(first)], [[1, 0, 1, 0]] * 2)

    def test_what_is_handed_in_is_not_changed(self):
        calls = many_calls()
        copy = list(calls)
        answers(calls)
        self.assertEqual(calls, copy)
        self.assertEqual(answers(Unchangeable(calls)), MANY_ANSWERS)

    def test_what_is_given_back_is_new(self):
        calls = many_calls()
        answered = answers(calls)
        answered.clear()
        self.assertEqual(answers(calls), MANY_ANSWERS)

    def test_nothing_is_printed(self):
        said = io.StringIO()
        with contextlib.redirect_stdout(said), contextlib.redirect_stderr(said):
            answers(many_calls())
        self.assertEqual(said.getvalue(), "")


if __name__ == "__main__":
    unittest.main()
