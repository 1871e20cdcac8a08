import unittest

from tests.helper import answer, asked, begins, firsts, forget, never, other, question, row


class Begins(unittest.TestCase):
    def test_answers_nought_wherever_it_stands(self):
        self.assertEqual(firsts(begins()), [0])
        self.assertEqual(firsts(begins(), begins(), question(), begins()), [0, 0, 0, 0])

    def test_the_first_call_need_not_be_begins(self):
        self.assertEqual(firsts(question(2, 1), question(3, 100), answer(1, 0)), [0, 1, 2])
        self.assertEqual(firsts(begins(), question(2, 1), question(3, 100), answer(1, 0)), [0, 0, 1, 2])

    def test_without_begins_a_list_starts_with_no_questions(self):
        self.assertEqual(
            firsts(answer(0, 0), forget(0), asked(0, 0, 1), never(0, 1), row(0, 0, 1), other(0)),
            [-2, -2, -2, -1, -1, 0])

    def test_in_the_midst_the_questions_are_gone(self):
        self.assertEqual(
            firsts(question(), question(), begins(), answer(0, 0), forget(0), asked(1, 0, 1), never(0, 1),
                   row(0, 0, 1), question()),
            [0, 1, 0, -2, -2, -2, -1, -1, 0])

    def test_in_the_midst_what_is_given_is_gone(self):
        self.assertEqual(
            firsts(question(), answer(0, 1), begins(), question(), forget(0), answer(0, 0)),
            [0, 1, 0, 0, -4, 1])

    def test_in_the_midst_what_is_told_of_asked_is_gone(self):
        self.assertEqual(
            firsts(question(), question(), asked(1, 0, 1), answer(0, 1), begins(),
                   question(), question(), answer(0, 1), asked(1, 0, 2)),
            [0, 1, 1, 1, 0, 0, 1, 2, 1])

    def test_in_the_midst_the_nevers_are_gone(self):
        self.assertEqual(
            firsts(question(), never(0, 1), answer(0, 0), begins(), question(), answer(0, 0), forget(0), never(0, 1)),
            [0, 0, -6, 0, 0, 1, 2, 0])

    def test_in_the_midst_the_rows_are_gone(self):
        rows = [row(1, 0, 1)] * 12
        self.assertEqual(
            firsts(question(), *rows, row(1, 0, 1), begins(), question(), row(1, 0, 1)),
            [0, *range(12), -5, 0, 0, 0])

    def test_there_is_room_for_six_questions_anew(self):
        six = [question()] * 6
        self.assertEqual(
            firsts(*six, question(), begins(), *six, question()),
            [0, 1, 2, 3, 4, 5, -5, 0, 0, 1, 2, 3, 4, 5, -5])
