import unittest

from tests.helper import GREATEST, answer, asked, begins, end, forget, last, never, question, run, state

TWO = [question(2), question(3)]


class State(unittest.TestCase):
    def test_asked_in_all_ways(self):
        self.assertEqual(end(*TWO, state(0)), [2, 0, 1])
        self.assertEqual(end(*TWO, state(1)), [2, 0, 1, 2])

    def test_asked_in_some_ways(self):
        self.assertEqual(end(*TWO, asked(1, 0, 2), state(1)), [1, 0, 1, 2])
        self.assertEqual(end(*TWO, asked(1, 0, 2), never(1, 2), state(1)), [1, 0, 2])
        self.assertEqual(end(*TWO, asked(1, 0, 1), never(1, 3), state(1)), [1, 2])

    def test_asked_in_no_way(self):
        self.assertEqual(end(*TWO, asked(1, 0, 2), never(0, 2), state(1)), [0])
        self.assertEqual(end(*TWO, asked(1, 0, 2), answer(0, 0), state(1)), [0])
        self.assertEqual(end(*TWO, asked(1, 0, 1, 0, 2), state(1)), [0])

    def test_asked_in_all_ways_by_claims(self):
        self.assertEqual(end(*TWO, asked(1, 0, 2), answer(0, 1), state(1)), [2, 0, 1, 2])
        self.assertEqual(end(*TWO, asked(1, 0, 2), asked(1, 0, 1), state(1)), [2, 0, 1, 2])
        self.assertEqual(end(*TWO, asked(1, 0, 3), state(1)), [2, 0, 1, 2])

    def test_some_of_the_answers(self):
        self.assertEqual(end(*TWO, never(1, 2), state(1)), [2, 0, 2])
        self.assertEqual(end(*TWO, never(1, 1), state(1)), [2, 1, 2])
        self.assertEqual(end(*TWO, never(0, 1, 1, 4), answer(0, 0), state(1)), [2, 0, 1])
        self.assertEqual(end(*TWO, never(0, 1, 1, 4), answer(0, 1), state(1)), [2, 0, 1, 2])

    def test_what_is_given(self):
        self.assertEqual(end(*TWO, answer(1, 2), state(1)), [2, 2])
        self.assertEqual(end(*TWO, answer(1, 0), state(1)), [2, 0])
        self.assertEqual(end(*TWO, answer(1, 0), state(0)), [2, 0, 1])
        self.assertEqual(end(*TWO, answer(1, 0), forget(1), state(1)), [2, 0, 1, 2])

    def test_a_given_question_behind_tells_of_one_before(self):
        self.assertEqual(end(*TWO, asked(1, 0, 2), answer(1, 1), state(0)), [2, 1])

    def test_three_questions_each_other_s_claims(self):
        three = [*TWO, question(2), asked(1, 0, 2), asked(2, 1, 6)]
        self.assertEqual(run(*three, state(0), state(1), state(2))[5:], [[2, 0, 1], [1, 0, 1, 2], [1, 0, 1]])
        self.assertEqual(run(*three, answer(1, 0), state(0), state(1), state(2))[6:], [[2, 1], [2, 0], [0]])

    def test_the_last_of_six(self):
        six = [question(3)] * 6
        self.assertEqual(run(*six, answer(5, 1), state(5), state(6), state(0))[7:], [[2, 1], [-2], [2, 0, 1, 2]])


class StateIsRefused(unittest.TestCase):
    def test_no_such_question(self):
        for number in (2, 3, 6, GREATEST - 1, GREATEST):
            with self.subTest(number=number):
                self.assertEqual(last(*TWO, state(number)), -2)

    def test_no_questions(self):
        self.assertEqual(run(state(0), state(GREATEST)), [[-2], [-2]])
        self.assertEqual(run(*TWO, state(1), begins(), state(0))[2:], [[2, 0, 1, 2], [0], [-2]])
