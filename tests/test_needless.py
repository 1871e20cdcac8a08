import unittest

from tests.helper import answer, asked, begins, end, forget, left, needless, never, other, question, row, run

TWO = [question(), question()]
BOTH = row(1, 0, 1, 1, 1)


class Needless(unittest.TestCase):
    def test_no_questions(self):
        self.assertEqual(run(needless()), [[0]])

    def test_none(self):
        self.assertEqual(end(question(), row(1, 0, 1), needless()), [0])
        self.assertEqual(end(*TWO, BOTH, needless()), [0])
        self.assertEqual(end(*[question(3)] * 6, row(1, 0, 1, 1, 1, 2, 1, 3, 1, 4, 1, 5, 1), needless()), [0])

    def test_some(self):
        self.assertEqual(end(*TWO, row(1, 0, 1), needless()), [1, 1])
        self.assertEqual(end(*TWO, row(1, 1, 1), needless()), [1, 0])
        self.assertEqual(end(*[question(3)] * 6, row(1, 1, 1, 4, 1), needless()), [4, 0, 2, 3, 5])

    def test_all_where_it_is_decided(self):
        self.assertEqual(end(*TWO, needless()), [2, 0, 1])
        self.assertEqual(end(*[question(3)] * 6, other(3), needless()), [6, 0, 1, 2, 3, 4, 5])
        self.assertEqual(end(*TWO, BOTH, answer(0, 1), needless()), [2, 0, 1])
        self.assertEqual(end(*TWO, BOTH, never(0, 1), needless()), [2, 0, 1])

    def test_all_though_not_all_at_once(self):
        # The answers are always alike, so either question does.
        alike = [*TWO, never(0, 1, 1, 2), never(0, 2, 1, 1)]
        self.assertEqual(end(*alike, row(1, 0, 1), needless()), [2, 0, 1])

    def test_a_question_that_two_others_make_up_for(self):
        three = [*[question()] * 3, never(0, 1, 1, 1, 2, 2), never(0, 2, 2, 1), never(1, 2, 2, 1), row(1, 2, 1)]
        self.assertEqual(end(*three, needless()), [3, 0, 1, 2])
        # If question 2 tells less than it did, it takes them both.
        three = [*[question()] * 3, never(0, 2, 2, 1), never(1, 2, 2, 1), row(1, 0, 1, 1, 1)]
        self.assertEqual(end(*three, needless()), [1, 2])

    def test_whatever_the_answers_are(self):
        # With answer 0 at question 0 nothing else needs to be asked; with answer 1 question 1 must be.
        self.assertEqual(end(*TWO, row(1, 0, 1), row(2, 1, 1), needless()), [0])
        three = [question(3), question(), question(), row(1, 0, 1), row(2, 0, 2, 1, 1), row(2, 0, 4, 2, 1)]
        self.assertEqual(end(*three, needless()), [0])

    def test_given_questions_are_not_asked_any_more(self):
        self.assertEqual(end(*TWO, BOTH, answer(0, 0), needless()), [1, 0])
        self.assertEqual(end(*TWO, BOTH, answer(1, 0), needless()), [1, 1])
        self.assertEqual(end(*TWO, BOTH, answer(1, 0), answer(0, 0), needless()), [2, 0, 1])
        self.assertEqual(run(*TWO, BOTH, answer(1, 0), forget(1), needless())[5:], [[0]])


class NeedlessWithQuestionsAskedInSomeWays(unittest.TestCase):
    def test_asked_in_some_ways(self):
        some = [*TWO, asked(1, 0, 1)]
        self.assertEqual(end(*some, row(1, 1, 1), needless()), [0])
        self.assertEqual(end(*some, row(1, 0, 1), needless()), [1, 1])
        self.assertEqual(end(*some, row(1, 1, 3), needless()), [1, 1])

    def test_a_question_that_another_hangs_on(self):
        # Question 0 counts for nothing but that question 1 is asked.
        some = [*TWO, asked(1, 0, 1), row(1, 1, 1)]
        self.assertEqual(end(*some, needless()), [0])
        self.assertEqual(end(*some, answer(0, 0), needless()), [1, 0])
        self.assertEqual(end(*some, asked(1, 0, 2), needless()), [1, 0])

    def test_another_question_tells_that_it_is_asked(self):
        # Question 1 is answered as question 0 is, so it tells as well whether question 2 is asked.
        three = [*TWO, question(), asked(2, 0, 1), never(0, 1, 1, 2), never(0, 2, 1, 1), row(1, 2, 1)]
        self.assertEqual(end(*three, needless()), [2, 0, 1])

    def test_asked_in_no_way(self):
        self.assertEqual(end(*TWO, asked(1, 0, 2), never(0, 2), needless()), [2, 0, 1])
        three = [*TWO, question(), asked(2, 1, 2), never(1, 2), row(1, 0, 1), row(2, 2, 3)]
        self.assertEqual(end(*three, needless()), [2, 1, 2])

    def test_an_answer_that_can_t_be_other(self):
        self.assertEqual(end(*TWO, never(0, 2), BOTH, needless()), [1, 0])

    def test_changes_nothing(self):
        self.assertEqual(run(*TWO, row(1, 0, 1), needless(), left(), answer(0, 0), needless(), forget(0), needless(),
                             begins(), needless())[3:],
                         [[1, 1], [4, 1, 1], [2], [2, 0, 1], [4], [1, 1], [0], [0]])
