import unittest

from tests.helper import GREATEST, answer, asked, firsts, forget, last, never, question

TWO = [question(2), question(3)]


class Forget(unittest.TestCase):
    def test_answers_how_many_ways_are_left(self):
        self.assertEqual(firsts(*TWO, answer(0, 1), answer(1, 2), forget(0), forget(1))[2:], [3, 1, 2, 6])
        self.assertEqual(firsts(*TWO, answer(0, 1), answer(1, 2), forget(1), forget(0))[2:], [3, 1, 3, 6])

    def test_it_can_be_given_again_with_another_answer(self):
        self.assertEqual(firsts(*TWO, answer(0, 0), forget(0), answer(0, 1), forget(0))[2:], [3, 6, 3, 6])

    def test_answer_nought_is_given_too(self):
        self.assertEqual(firsts(*TWO, answer(1, 0), forget(1))[2:], [2, 6])

    def test_others_stay_given(self):
        calls = [*TWO, asked(1, 0, 1), answer(0, 0), answer(1, 0), forget(0)]
        self.assertEqual(firsts(*calls, answer(0, 1), forget(1), answer(0, 1))[3:], [3, 1, 1, -6, 4, 1])

    def test_with_nevers_and_claims(self):
        calls = [*TWO, asked(1, 0, 1), never(1, 2), answer(0, 1)]
        self.assertEqual(firsts(*calls, forget(0))[4:], [1, 3])

    def test_the_last_of_six_questions(self):
        six = [question(3)] * 6
        self.assertEqual(firsts(*six, answer(5, 0), forget(5), forget(6))[6:], [243, 729, -2])


class ForgetIsRefused(unittest.TestCase):
    def test_no_such_question(self):
        for number in (2, 3, 6, GREATEST - 1, GREATEST):
            with self.subTest(number=number):
                self.assertEqual(last(*TWO, forget(number)), -2)
        self.assertEqual(firsts(forget(0)), [-2])

    def test_not_given(self):
        self.assertEqual(firsts(*TWO, forget(0), forget(1))[2:], [-4, -4])
        self.assertEqual(firsts(*TWO, answer(0, 0), forget(1), forget(0), forget(0))[2:], [3, -4, 6, -4])

    def test_a_refusal_changes_nothing(self):
        for refused in (forget(2), forget(1), forget(GREATEST)):
            with self.subTest(refused=refused):
                self.assertEqual(firsts(*TWO, answer(0, 0), refused, answer(1, 0), forget(0), forget(1))[4:], [1, 2, 6])
