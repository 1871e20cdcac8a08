import unittest

from tests.helper import GREATEST, answer, asked, firsts, forget, last, never, question

TWO = [question(2), question(3)]


class Answer(unittest.TestCase):
    def test_answers_how_many_ways_are_left(self):
        self.assertEqual(firsts(*TWO, answer(0, 1), answer(1, 2))[2:], [3, 1])
        self.assertEqual(firsts(*TWO, answer(1, 2), answer(0, 1))[2:], [2, 1])

    def test_every_answer_of_a_question(self):
        for given in range(2):
            self.assertEqual(last(*TWO, answer(0, given)), 3)
        for given in range(3):
            self.assertEqual(last(*TWO, answer(1, given)), 2)

    def test_ways_by_which_a_given_question_is_not_asked_are_not_left(self):
        calls = [*TWO, asked(1, 0, 1)]
        self.assertEqual(firsts(*calls, answer(1, 2), answer(0, 1), answer(0, 0))[3:], [1, -6, 1])

    def test_with_nevers(self):
        calls = [*TWO, never(0, 1, 1, 1), never(0, 2, 1, 6)]
        self.assertEqual(last(*calls, answer(0, 0)), 2)
        self.assertEqual(last(*calls, answer(0, 1)), 1)
        self.assertEqual(last(*calls, answer(1, 0)), 1)
        self.assertEqual(firsts(*calls, answer(1, 0), answer(0, 0), answer(0, 1))[4:], [1, -6, 1])

    def test_with_several_rows_of_claims_and_nevers(self):
        calls = [question(3), question(2), question(3), asked(1, 0, 1), asked(1, 0, 4), asked(2, 1, 2), asked(2, 0, 2),
                 never(0, 4, 2, 4), never(0, 2, 2, 1)]
        # 0: answer 0 of 1, then 1 of 1 with three of 2; 1: two of 2; 2: answer 0 of 1, then 1 of 1 with two of 2.
        self.assertEqual(firsts(*calls, answer(0, 0), forget(0), answer(0, 1), forget(0), answer(0, 2))[9:],
                         [4, 9, 2, 9, 3])
        self.assertEqual(firsts(*calls, answer(2, 2), answer(0, 2), forget(2), answer(0, 2))[9:], [2, -6, 9, 3])

    def test_six_questions(self):
        six = [question(3)] * 6
        self.assertEqual(firsts(*six, *[answer(q, 2) for q in range(6)])[6:], [243, 81, 27, 9, 3, 1])
        six = [question(2)] * 6
        self.assertEqual(firsts(*six, *[answer(q, 1) for q in range(5, -1, -1)])[6:], [32, 16, 8, 4, 2, 1])


class AnswerIsRefused(unittest.TestCase):
    def test_no_such_question(self):
        for number in (2, 3, 6, GREATEST - 1, GREATEST):
            with self.subTest(number=number):
                self.assertEqual(last(*TWO, answer(number, 0)), -2)
        self.assertEqual(firsts(answer(0, 0)), [-2])

    def test_no_such_answer(self):
        for given in (2, 3, 4, GREATEST - 1, GREATEST):
            with self.subTest(given=given):
                self.assertEqual(last(*TWO, answer(0, given)), -1)
        for given in (3, 4, GREATEST - 1, GREATEST):
            with self.subTest(given=given):
                self.assertEqual(last(*TWO, answer(1, given)), -1)

    def test_given_already(self):
        self.assertEqual(firsts(*TWO, answer(1, 1), answer(1, 1), answer(1, 0), answer(1, 2))[2:], [2, -4, -4, -4])
        self.assertEqual(firsts(*TWO, answer(1, 0), answer(1, 0), answer(1, 1))[2:], [2, -4, -4])

    def test_nothing_would_be_left(self):
        self.assertEqual(last(*TWO, never(1, 4), answer(1, 2)), -6)
        self.assertEqual(last(*TWO, asked(1, 0, 1), answer(0, 1), answer(1, 0)), -6)
        self.assertEqual(last(*TWO, asked(1, 0, 1, 0, 2), answer(1, 0)), -6)

    def test_no_such_question_is_told_first(self):
        self.assertEqual(last(*TWO, answer(2, 3)), -2)
        self.assertEqual(last(*TWO, answer(GREATEST, GREATEST)), -2)

    def test_no_such_answer_is_told_before_given_already(self):
        self.assertEqual(last(*TWO, answer(0, 1), answer(0, 2)), -1)
        self.assertEqual(last(*TWO, answer(1, 1), answer(1, 3)), -1)

    def test_no_such_answer_is_told_before_nothing_left(self):
        self.assertEqual(last(*TWO, asked(1, 0, 1), answer(0, 1), answer(1, 3)), -1)

    def test_given_already_is_told_before_nothing_left(self):
        self.assertEqual(firsts(*TWO, never(0, 1), answer(0, 1), answer(0, 0))[2:], [0, 3, -4])

    def test_a_refusal_changes_nothing(self):
        calls = [*TWO, asked(1, 0, 1), never(1, 4), answer(0, 0)]
        self.assertEqual(last(*calls), 2)
        for refused in (answer(2, 0), answer(1, 3), answer(0, 2), answer(0, 1), answer(1, 2)):
            with self.subTest(refused=refused):
                self.assertLess(last(*calls, refused), 0)
                self.assertEqual(firsts(*calls, refused, answer(1, 1), forget(1), forget(0))[6:], [1, 2, 3])

    def test_an_answer_refused_is_not_given(self):
        calls = [*TWO, never(1, 4)]
        self.assertEqual(firsts(*calls, answer(1, 2), forget(1), answer(1, 1))[3:], [-6, -4, 2])
        self.assertEqual(firsts(*calls, answer(1, 3), forget(1), answer(1, 1))[3:], [-1, -4, 2])
