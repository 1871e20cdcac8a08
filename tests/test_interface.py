import unittest

from formasks import form
from tests.helper import answer, asked, begins, firsts, forget, never, other, question, row


class Interface(unittest.TestCase):
    def test_calls_as_they_are_told(self):
        calls = [
            0, 0, 0,
            1, 2, 2, 1, 0,
            1, 2, 3, 100, 0,
            2, 3, 1, 0, 1, 0,
            3, 4, 0, 1, 1, 4, 0,
            4, 3, 9, 1, 7, 0,
            5, 1, 9, 0,
            6, 2, 0, 0, 0,
            7, 1, 0, 0,
        ]
        self.assertEqual(form.answers(calls), [1, 0, 1, 0, 1, 1, 1, 1, 1, 0, 1, 0, 1, 0, 1, 2, 1, 3])

    def test_calls_without_claims(self):
        calls = [1, 2, 2, 1, 0, 2, 1, 0, 0, 3, 0, 0, 4, 1, 5, 0]
        self.assertEqual(form.answers(calls), [1, 0, 1, -1, 1, -1, 1, -1])

    def test_a_refusal_is_its_number_alone(self):
        calls = [6, 2, 0, 0, 0, 1, 2, 1, 1, 0, 1, 2, 2, 1, 0, 7, 1, 0, 0, 3, 2, 0, 3, 0]
        self.assertEqual(form.answers(calls), [1, -2, 1, -1, 1, 0, 1, -4, 1, -6])

    def test_the_argument_is_called_calls(self):
        self.assertEqual(form.answers(calls=[0, 0, 0]), [1, 0])

    def test_answers_are_a_list_of_whole_numbers(self):
        told = form.answers([*question(), *question(), *asked(1, 0, 1), *answer(0, 0), *forget(0), *forget(0)])
        self.assertIs(type(told), list)
        self.assertEqual({type(number) for number in told}, {int})

    def test_what_is_handed_in_stays_as_it_was(self):
        calls = sum(EVERY_CALL, [])
        before = list(calls)
        form.answers(calls)
        self.assertEqual(calls, before)

    def test_what_is_handed_in_is_not_changed_for_a_while_either(self):
        watched = Watched(sum(EVERY_CALL, []))
        form.answers(watched)
        self.assertEqual(watched.changes, 0)

    def test_a_second_time_is_as_the_first(self):
        calls = sum(EVERY_CALL, [])
        first = form.answers(calls)
        second = form.answers(calls)
        self.assertEqual(first, second)
        self.assertIsNot(first, second)

    def test_nothing_is_kept_from_another_list(self):
        form.answers(sum(EVERY_CALL, []))
        self.assertEqual(firsts(answer(0, 0), question(), row(1, 0, 1), never(0, 1)), [-2, 0, 0, 0])

    def test_changing_the_answers_changes_nothing_later(self):
        calls = sum(EVERY_CALL, [])
        first = form.answers(calls)
        before = list(first)
        first.clear()
        self.assertEqual(form.answers(calls), before)

    def test_a_hundred_calls(self):
        six = [question(3)] * 6
        nevers = [never(*[0, 7, 1, 7, 2, 7, 3, 7, 4, 7, 5, 1] * 2)] * 10
        turns = [answer(5, 1), forget(5)] * 42
        told = firsts(*six, *nevers, *turns)
        self.assertEqual(len(told), 100)
        self.assertEqual(told[16:], [243, 486] * 42)

    def test_a_hundred_begins(self):
        self.assertEqual(firsts(*[begins()] * 100), [0] * 100)


EVERY_CALL = [
    question(3, 5), question(2, 7), asked(1, 0, 1), asked(1, 0, 2, 0, 3), never(0, 1, 1, 2), row(4, 1, 3), other(3),
    answer(0, 0), answer(0, 0), forget(0), forget(0), never(0, 7), asked(1, 1, 1), begins(),
    question(2, 1), never(0, 2), answer(0, 0), row(9, 0, 1), question(2, 1), answer(1, 1),
]


class Watched(list):
    """A list that counts what is changed in it."""

    changes = 0


def watch(name):
    plain = getattr(list, name)

    def watched(self, *numbers, **named):
        self.changes += 1
        return plain(self, *numbers, **named)

    setattr(Watched, name, watched)


for changing in ("append", "clear", "extend", "insert", "pop", "remove", "reverse", "sort",
                 "__setitem__", "__delitem__", "__iadd__", "__imul__"):
    watch(changing)
