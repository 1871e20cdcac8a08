import unittest

from tests.helper import answer, asked, begins, end, forget, left, never, other, question, row, run

TWO = [question(2), question(3)]


class Left(unittest.TestCase):
    def test_no_questions(self):
        self.assertEqual(run(left()), [[1]])
        self.assertEqual(end(other(9), left()), [1])

    def test_all_ways_and_the_first(self):
        self.assertEqual(end(*TWO, left()), [6, 1, 1])
        self.assertEqual(end(question(3), left()), [3, 1])
        self.assertEqual(end(*[question(3)] * 6, left()), [729, 1, 1, 1, 1, 1, 1])

    def test_what_is_given(self):
        self.assertEqual(end(*TWO, answer(1, 2), left()), [2, 1, 3])
        self.assertEqual(end(*TWO, answer(0, 1), left()), [3, 2, 1])
        self.assertEqual(end(*TWO, answer(0, 1), answer(1, 1), left()), [1, 2, 2])
        self.assertEqual(end(*TWO, answer(0, 1), answer(1, 1), forget(0), left()), [2, 1, 2])

    def test_nevers(self):
        self.assertEqual(end(*TWO, never(0, 1, 1, 1), left()), [5, 1, 2])
        self.assertEqual(end(*TWO, never(0, 1, 1, 3), never(1, 4), left()), [2, 2, 1])

    def test_not_asked_in_the_first_way(self):
        self.assertEqual(end(*TWO, asked(1, 0, 2), left()), [4, 1, 0])
        self.assertEqual(end(*TWO, asked(1, 0, 2), answer(0, 1), left()), [3, 2, 1])
        self.assertEqual(end(*TWO, question(2), asked(1, 0, 2), asked(2, 1, 1), left()), [5, 1, 0, 0])

    def test_not_asked_between_questions_that_are(self):
        three = [question(2), question(3), question(3), asked(1, 0, 2), never(2, 1)]
        self.assertEqual(end(*three, left()), [8, 1, 0, 2])
        self.assertEqual(end(*three, answer(1, 1), left()), [2, 2, 2, 2])

    def test_asked_by_one_of_several_rows(self):
        three = [question(2), question(2), question(2), asked(2, 0, 2, 1, 2), asked(2, 0, 1, 1, 1)]
        self.assertEqual(end(*three, left()), [6, 1, 1, 1])
        self.assertEqual(end(*three, never(0, 1, 1, 1), left()), [4, 1, 2, 0])
        self.assertEqual(end(*three, answer(2, 1), left()), [2, 1, 1, 2])
        self.assertEqual(end(*three, answer(2, 1), answer(0, 1), left()), [1, 2, 2, 2])

    def test_the_first_question_counts_more_than_those_behind(self):
        # The way 1 0 3 stands before 2 1 1, though 0 stands beside answers and 3 is more than 1.
        three = [question(2), question(2), question(3), asked(1, 0, 2), never(0, 1, 2, 3)]
        self.assertEqual(end(*three, left()), [7, 1, 0, 3])
        self.assertEqual(end(*three, never(0, 1, 2, 4), left()), [6, 2, 1, 1])

    def test_rows_and_results_don_t_matter(self):
        self.assertEqual(end(*TWO, row(5, 0, 1), other(3), left()), [6, 1, 1])

    def test_changes_nothing(self):
        self.assertEqual(run(*TWO, answer(0, 1), left(), left(), forget(0), left(), begins(), left())[3:], [
            [3, 2, 1], [3, 2, 1], [6], [6, 1, 1], [0], [1]])
