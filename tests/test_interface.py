import unittest

from formasks import form
from tests.helper import (
    GREATEST, answer, asked, begins, check, firsts, forget, left, needless, never, other, question, reason, results,
    row, run, state, together, worst)


class Interface(unittest.TestCase):
    def test_calls_as_they_are_told(self):
        calls = [
            0, 0, 0,
            1, 2, 2, 1, 0,
            1, 2, 3, 100, 0,
            2, 3, 1, 0, 1, 0,
            3, 4, 0, 1, 1, 4, 0,
            4, 3, 9, 1, 7, 0,
            5, 1, 9, 0,
            6, 2, 0, 0, 0,
            7, 1, 0, 0,
        ]
        self.assertEqual(form.answers(calls), [1, 0, 1, 0, 1, 1, 1, 1, 1, 0, 1, 0, 1, 0, 1, 2, 1, 3])

    def test_calls_that_look_and_decide_as_they_are_told(self):
        calls = [
            1, 2, 2, 5, 0,
            1, 2, 3, 1, 0,
            2, 3, 1, 0, 1, 0,
            4, 5, 9, 0, 1, 1, 1, 0,
            8, 0, 0,
            9, 1, 1, 0,
            9, 1, 2, 0,
            10, 0, 0,
            11, 2, 2, 1, 0,
            11, 2, 1, 1, 0,
            11, 0, 0,
            12, 1, 0, 0,
            12, 1, 1, 0,
            13, 0, 0,
            14, 0, 0,
            6, 2, 0, 1, 0,
            12, 1, 0, 0,
            13, 0, 0,
            14, 0, 0,
        ]
        self.assertEqual(form.answers(calls), [
            1, 0, 1, 1, 1, 1, 1, 0,
            3, 4, 1, 1,
            4, 1, 0, 1, 2,
            1, -2,
            3, 2, 0, 9,
            3, 1, 2, 1,
            2, 0, 9,
            1, -1,
            2, 6, 0,
            2, 23, 0,
            1, -7,
            1, 0,
            1, 1,
            1, 0,
            2, 1, 0,
            3, 2, 0, 1])

    def test_calls_without_claims(self):
        calls = [1, 2, 2, 1, 0, 2, 1, 0, 0, 3, 0, 0, 4, 1, 5, 0]
        self.assertEqual(form.answers(calls), [1, 0, 1, -1, 1, -1, 1, -1])

    def test_a_refusal_is_its_number_alone(self):
        calls = [6, 2, 0, 0, 0, 1, 2, 1, 1, 0, 1, 2, 2, 1, 0, 7, 1, 0, 0, 3, 2, 0, 3, 0]
        self.assertEqual(form.answers(calls), [1, -2, 1, -1, 1, 0, 1, -4, 1, -6])

    def test_the_argument_is_called_calls(self):
        self.assertEqual(form.answers(calls=[0, 0, 0]), [1, 0])

    def test_answers_are_a_list_of_whole_numbers(self):
        told = form.answers([*question(), *question(), *asked(1, 0, 1), *answer(0, 0), *forget(0), *forget(0)])
        self.assertIs(type(told), list)
        self.assertEqual({type(number) for number in told}, {int})

    def test_what_is_handed_in_stays_as_it_was(self):
        calls = sum(EVERY_CALL, [])
        before = list(calls)
        form.answers(calls)
        self.assertEqual(calls, before)

    def test_what_is_handed_in_is_not_changed_for_a_while_either(self):
        watched = Watched(sum(EVERY_CALL, []))
        form.answers(watched)
        self.assertEqual(watched.changes, 0)

    def test_a_second_time_is_as_the_first(self):
        calls = sum(EVERY_CALL, [])
        first = form.answers(calls)
        second = form.answers(calls)
        self.assertEqual(first, second)
        self.assertIsNot(first, second)

    def test_every_call_is_there_and_few_of_those_that_decide(self):
        self.assertEqual({one[0] for one in EVERY_CALL}, set(range(15)))
        self.assertLessEqual(sum(one[0] in (12, 13, 14) for one in EVERY_CALL), 12)

    def test_looking_changes_nothing(self):
        looks = [left(), state(0), state(1), state(2), results(), check(1, 2), check(), worst(), together(), reason(),
                 needless()]
        form_calls = [question(3, 5), question(2, 7), asked(1, 0, 3), never(0, 1, 1, 2), row(4, 1, 1), answer(0, 0)]
        told = run(*form_calls, *looks, left(), state(0), results(), forget(0), left())
        self.assertEqual([told[-5], told[-4], told[-3]], [told[6], told[7], told[10]])
        self.assertEqual(told[-2:], [[4], [4, 1, 1]])

    def test_refusals_change_nothing_that_can_be_looked_at(self):
        form_calls = [question(3, 5), question(2, 7), asked(1, 0, 3), never(0, 1, 1, 2), row(4, 1, 1), row(5, 0, 2),
                      other(6), answer(1, 0)]
        looks = [left(), state(0), state(1), results(), check(2, 1), check(3, 1), worst(), together(), reason(),
                 needless()]
        refused = [question(4, 1), question(2, 0), asked(2, 0, 1), asked(1, 1, 1), asked(0), never(), never(1, 1),
                   never(0, 8), row(10, 0, 1), row(1, 0, 0), row(1), other(10), answer(2, 0), answer(0, 3),
                   answer(1, 1), answer(0, 2), forget(0), forget(2), state(2), check(1), check(4, 0)]
        plain = run(*form_calls, *looks)[-len(looks):]
        for one in refused:
            with self.subTest(one=one):
                told = run(*form_calls, one, *looks)
                self.assertEqual(len(told[len(form_calls)]), 1)
                self.assertLess(told[len(form_calls)][0], 0)
                self.assertEqual(told[-len(looks):], plain)

    def test_nothing_is_kept_from_another_list(self):
        form.answers(sum(EVERY_CALL, []))
        self.assertEqual(firsts(answer(0, 0), question(), row(1, 0, 1), never(0, 1)), [-2, 0, 0, 0])

    def test_changing_the_answers_changes_nothing_later(self):
        calls = sum(EVERY_CALL, [])
        first = form.answers(calls)
        before = list(first)
        first.clear()
        self.assertEqual(form.answers(calls), before)

    def test_a_hundred_calls(self):
        six = [question(3)] * 6
        nevers = [never(*[0, 7, 1, 7, 2, 7, 3, 7, 4, 7, 5, 1] * 2)] * 10
        turns = [answer(5, 1), forget(5)] * 42
        told = firsts(*six, *nevers, *turns)
        self.assertEqual(len(told), 100)
        self.assertEqual(told[16:], [243, 486] * 42)

    def test_a_hundred_begins(self):
        self.assertEqual(firsts(*[begins()] * 100), [0] * 100)


EVERY_CALL = [
    left(), state(0), results(), check(), worst(), reason(), needless(),
    question(3, 5), question(2, 7), asked(1, 0, 1), asked(1, 0, 2, 0, 3), never(0, 1, 1, 2), row(4, 1, 3), other(3),
    left(), state(1), state(GREATEST), results(), check(1, 2), check(3, 0), check(4, 0), worst(), together(), reason(),
    needless(), answer(0, 0), answer(0, 0), worst(), reason(), needless(), forget(0), forget(0), never(0, 7),
    asked(1, 1, 1), begins(), question(2, 1), never(0, 2), answer(0, 0), row(9, 0, 1), question(2, 1), answer(1, 1),
    left(), results(), together(), reason(),
]


class Watched(list):
    """A list that counts what is changed in it."""

    changes = 0


def watch(name):
    plain = getattr(list, name)

    def watched(self, *numbers, **named):
        self.changes += 1
        return plain(self, *numbers, **named)

    setattr(Watched, name, watched)


for changing in ("append", "clear", "extend", "insert", "pop", "remove", "reverse", "sort",
                 "__setitem__", "__delitem__", "__iadd__", "__imul__"):
    watch(changing)
