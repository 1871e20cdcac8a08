import unittest

from tests.helper import GREATEST, answer, asked, begins, check, end, never, other, question, row, run

TWO = [question(2), question(3)]


class CheckOfRightWays(unittest.TestCase):
    def test_the_result(self):
        some = [*TWO, row(4, 0, 1, 1, 2), row(7, 1, 6), other(9)]
        told = run(*some, check(1, 1), check(1, 2), check(1, 3), check(2, 1), check(2, 2), check(2, 3))
        self.assertEqual(told[5:], [[0, 9], [0, 4], [0, 7], [0, 9], [0, 7], [0, 7]])

    def test_the_result_nought(self):
        self.assertEqual(end(*TWO, check(2, 3)), [0, 0])

    def test_a_question_that_is_not_asked(self):
        some = [*TWO, asked(1, 0, 2), row(3, 1, 7), other(5)]
        self.assertEqual(run(*some, check(1, 0), check(2, 1), check(2, 3))[5:], [[0, 5], [0, 3], [0, 3]])

    def test_no_questions(self):
        self.assertEqual(run(check(), other(8), check()), [[0, 0], [0], [0, 8]])

    def test_six_questions(self):
        six = [*[question(3)] * 6, row(6, *[n for q in range(6) for n in (q, 4)])]
        self.assertEqual(run(*six, check(3, 3, 3, 3, 3, 3), check(3, 3, 3, 3, 3, 2))[7:], [[0, 6], [0, 0]])

    def test_nothing_of_what_is_given_is_looked_at(self):
        some = [*TWO, asked(1, 0, 2), row(3, 1, 1), other(5)]
        self.assertEqual(run(*some, answer(0, 1), answer(1, 0), check(1, 0), check(2, 2), check(2, 1))[7:],
                         [[0, 5], [0, 5], [0, 3]])
        self.assertEqual(end(*some, answer(0, 1), answer(1, 0), check(0, 0)), [1, 1, 0])
        self.assertEqual(end(*some, answer(0, 0), check(2, 0)), [1, 1, 1])


class CheckOfWrongWays(unittest.TestCase):
    def test_no_answer(self):
        self.assertEqual(end(*TWO, check(0, 1)), [1, 1, 0])
        self.assertEqual(end(*TWO, check(1, 0)), [1, 1, 1])
        self.assertEqual(end(*TWO, check(0, 0)), [2, 1, 0, 1, 1])

    def test_no_answer_where_it_is_asked_by_claims(self):
        self.assertEqual(end(*TWO, asked(1, 0, 2), check(2, 0)), [1, 1, 1])
        self.assertEqual(end(*TWO, asked(1, 0, 1, 0, 2), asked(1, 0, 2), check(2, 0)), [1, 1, 1])

    def test_not_asked(self):
        self.assertEqual(end(*TWO, asked(1, 0, 2), check(1, 1)), [1, 2, 1])
        self.assertEqual(end(*TWO, asked(1, 0, 2), check(1, 3)), [1, 2, 1])

    def test_a_question_without_an_answer_makes_no_claim_hold(self):
        self.assertEqual(end(*TWO, asked(1, 0, 3), check(0, 0)), [1, 1, 0])
        self.assertEqual(end(*TWO, asked(1, 0, 3), check(0, 2)), [2, 1, 0, 2, 1])
        self.assertEqual(end(*TWO, never(0, 1, 1, 7), never(0, 1), check(0, 1)), [1, 1, 0])

    def test_nevers(self):
        some = [*TWO, never(0, 1, 1, 1), never(1, 3), never(0, 1, 1, 5)]
        told = run(*some, check(1, 1), check(1, 2), check(1, 3), check(2, 1), check(2, 3))
        self.assertEqual(told[5:], [[3, 3, 0, 3, 1, 3, 2], [1, 3, 1], [1, 3, 2], [1, 3, 1], [0, 0]])

    def test_the_tenth_never(self):
        self.assertEqual(end(*TWO, *[never(0, 1)] * 9, never(1, 1), check(2, 1)), [1, 3, 9])
        self.assertEqual(end(*TWO, *[never(0, 1)] * 9, never(1, 1), check(1, 2)),
                         [9, *[n for number in range(9) for n in (3, number)]])

    def test_an_answer_to_a_question_that_is_not_asked_counts_in_claims_for_others(self):
        three = [question(2), question(2), question(2), asked(1, 0, 2), asked(2, 1, 1)]
        self.assertEqual(end(*three, check(1, 0, 0)), [0, 0])
        self.assertEqual(end(*three, check(1, 1, 1)), [1, 2, 1])
        self.assertEqual(end(*three, check(1, 1, 0)), [2, 2, 1, 1, 2])
        self.assertEqual(end(*three, check(1, 2, 0)), [1, 2, 1])
        self.assertEqual(end(*three, check(1, 2, 1)), [2, 2, 1, 2, 2])

    def test_an_answer_to_a_question_that_is_not_asked_counts_in_nevers(self):
        some = [*TWO, asked(1, 0, 2), never(1, 4), never(0, 1, 1, 2)]
        self.assertEqual(end(*some, check(1, 3)), [2, 2, 1, 3, 0])
        self.assertEqual(end(*some, check(1, 2)), [2, 2, 1, 3, 1])
        self.assertEqual(end(*some, check(1, 1)), [1, 2, 1])

    def test_question_by_question_then_the_nevers(self):
        four = [question(2), question(2), question(2), question(3), asked(1, 0, 2), asked(3, 2, 2, 1, 1),
                never(1, 3), never(0, 2), never(3, 2), never(1, 1, 3, 6)]
        self.assertEqual(end(*four, check(0, 1, 0, 2)), [7, 1, 0, 2, 1, 1, 2, 2, 3, 3, 0, 3, 2, 3, 3])
        self.assertEqual(end(*four, check(2, 1, 2, 0)), [3, 1, 3, 3, 0, 3, 1])
        self.assertEqual(end(*four, check(1, 0, 0, 3)), [2, 1, 2, 2, 3])

    def test_results_are_not_told_of_wrong_ways(self):
        self.assertEqual(end(*TWO, row(9, 0, 1), check(1, 0)), [1, 1, 1])


class CheckIsRefused(unittest.TestCase):
    def test_not_one_number_for_each_question(self):
        for filled in ((), (1,), (1, 1, 1), (1, 1, 0), (0, 0, 0), (1,) * 25):
            with self.subTest(filled=filled):
                self.assertEqual(end(*TWO, check(*filled)), [-1])

    def test_no_questions(self):
        self.assertEqual(run(check(0), check(1), check(GREATEST), check(*[0] * 25)), [[-1]] * 4)

    def test_no_such_answer(self):
        for filled in ((3, 1), (1, 4), (0, 4), (3, 0), (3, 4), (GREATEST, 1), (1, GREATEST), (GREATEST, GREATEST)):
            with self.subTest(filled=filled):
                self.assertEqual(end(*TWO, check(*filled)), [-1])

    def test_no_such_answer_is_told_before_what_is_wrong(self):
        self.assertEqual(end(*TWO, asked(1, 0, 2), never(0, 1), check(1, 4)), [-1])

    def test_the_questions_that_there_are_now(self):
        self.assertEqual(run(question(), check(1), question(), check(1), check(1, 1), begins(), check(1, 1), check()), [
            [0], [0, 0], [1], [-1], [0, 0], [0], [-1], [0, 0]])
