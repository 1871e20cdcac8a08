import unittest

from tests.helper import answer, asked, begins, end, forget, never, other, question, results, row, run

TWO = [question(2), question(3)]


class Results(unittest.TestCase):
    def test_nought_at_first(self):
        self.assertEqual(run(results()), [[1, 0]])
        self.assertEqual(end(*TWO, results()), [1, 0])

    def test_the_other_one(self):
        self.assertEqual(end(other(7), results()), [1, 7])
        self.assertEqual(end(*TWO, other(7), other(9), results()), [1, 9])
        self.assertEqual(end(*TWO, other(7), other(10), results()), [1, 7])

    def test_rising(self):
        rows = [row(9, 1, 1), row(2, 1, 2), other(5)]
        self.assertEqual(end(*TWO, *rows, results()), [3, 2, 5, 9])
        self.assertEqual(end(*TWO, *rows, answer(1, 1), results()), [1, 2])
        self.assertEqual(end(*TWO, *rows, never(1, 2), results()), [2, 5, 9])

    def test_each_result_once(self):
        self.assertEqual(end(*TWO, row(4, 0, 1), row(4, 1, 3), other(4), results()), [1, 4])
        self.assertEqual(end(*TWO, row(4, 0, 1), row(1, 1, 3), other(4), results()), [2, 1, 4])

    def test_the_first_row_that_holds(self):
        self.assertEqual(end(*TWO, row(1, 0, 3), row(2, 1, 7), row(3, 0, 1), results()), [1, 1])
        self.assertEqual(end(*TWO, row(1, 0, 1), row(2, 0, 3), other(3), results()), [2, 1, 2])

    def test_all_claims_of_a_row_must_hold(self):
        both = [*TWO, row(8, 0, 1, 1, 4), other(6)]
        self.assertEqual(end(*both, results()), [2, 6, 8])
        self.assertEqual(end(*both, answer(0, 1), results()), [1, 6])
        self.assertEqual(end(*both, answer(1, 2), results()), [2, 6, 8])
        self.assertEqual(end(*both, answer(1, 2), answer(0, 0), results()), [1, 8])

    def test_rows_that_hold_in_no_way(self):
        self.assertEqual(end(*TWO, row(3, 0, 1, 0, 2), other(1), results()), [1, 1])
        self.assertEqual(end(*TWO, row(3, 0, 1), never(0, 1), other(1), results()), [1, 1])
        self.assertEqual(end(*TWO, row(3, 0, 1), answer(0, 1), other(1), results()), [1, 1])

    def test_claims_of_a_question_that_is_not_asked_don_t_hold(self):
        some = [*TWO, asked(1, 0, 2), row(5, 1, 7), other(2)]
        self.assertEqual(end(*some, results()), [2, 2, 5])
        self.assertEqual(end(*some, answer(0, 0), results()), [1, 2])
        self.assertEqual(end(*some, answer(0, 1), results()), [1, 5])

    def test_answers_given_and_forgotten(self):
        told = run(*TWO, row(1, 0, 1), other(2), results(), answer(0, 0), results(), forget(0), results(),
                   answer(0, 1), results())
        self.assertEqual(told[4:], [[2, 1, 2], [3], [1, 1], [6], [2, 1, 2], [3], [1, 2]])

    def test_ten_results(self):
        three = [question(3), question(3), question(3)]
        rows = [row(result, 0, 1 << result % 3, 1, 1 << result // 3) for result in range(9)]
        self.assertEqual(end(*three, *rows, other(9), results()), [9, *range(9)])
        rows = [row(8 - n, 0, 1 << n % 3, 1, 1 << n // 3) for n in range(8)]
        self.assertEqual(end(*three, *rows, row(0, 2, 1), other(9), results()), [10, *range(10)])

    def test_the_twelfth_row(self):
        self.assertEqual(end(*TWO, *[row(1, 0, 1)] * 11, row(7, 0, 2), row(6, 0, 2), results()), [2, 1, 7])

    def test_begins_takes_rows_and_the_other_result_back(self):
        self.assertEqual(end(*TWO, row(3, 0, 3), begins(), question(), results()), [1, 0])
        self.assertEqual(end(other(4), begins(), results()), [1, 0])

    def test_refused_rows_change_nothing(self):
        refused = [row(10, 0, 2), row(2, 0, 4), row(3, 2, 1), row(4), other(10)]
        self.assertEqual(end(*TWO, row(1, 0, 1), *refused, results()), [2, 0, 1])
