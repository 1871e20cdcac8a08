import unittest

from tests.helper import answer, asked, begins, end, forget, never, other, question, row, run, together, worst


def both(*calls):
    """What next answers behind these calls: at the worst, then together."""
    return run(*calls, worst(), together())[-2:]


def burdened(*burdens):
    """Questions with two answers each."""
    return [question(2, burden) for burden in burdens]


class NextWhereItIsDecided(unittest.TestCase):
    def test_no_questions(self):
        self.assertEqual(both(), [[0], [0]])
        self.assertEqual(both(other(5)), [[0], [0]])

    def test_no_rows(self):
        self.assertEqual(both(*burdened(3, 4)), [[0], [0]])

    def test_one_result_by_several_rows(self):
        self.assertEqual(both(*burdened(3, 4), row(2, 0, 1), row(2, 1, 1), other(2)), [[0], [0]])
        self.assertEqual(both(*burdened(3, 4), row(2, 0, 1), row(2, 1, 1)), [[7, 0], [4 * 3 + 2 * 4, 0]])

    def test_by_what_is_given(self):
        calls = [*burdened(3, 4), row(2, 0, 1, 1, 1)]
        self.assertEqual(both(*calls, answer(0, 1)), [[0], [0]])
        self.assertEqual(both(*calls, answer(1, 1)), [[0], [0]])
        self.assertEqual(both(*calls, answer(0, 0)), [[4, 1], [8, 1]])
        self.assertEqual(both(*calls, answer(0, 1), forget(0), answer(1, 0)), [[3, 0], [6, 0]])

    def test_by_nevers(self):
        self.assertEqual(both(*burdened(3), row(2, 0, 1), never(0, 1)), [[0], [0]])


class Next(unittest.TestCase):
    def test_one_question(self):
        self.assertEqual(both(question(2, 1), row(1, 0, 1)), [[1, 0], [2, 0]])
        self.assertEqual(both(question(2, 100), row(1, 0, 1)), [[100, 0], [200, 0]])
        self.assertEqual(both(question(3, 7), row(1, 0, 5)), [[7, 0], [21, 0]])

    def test_six_questions_that_all_count(self):
        six = [question(3, 100)] * 6
        rows = [row(1, 0, 1, 1, 1, 2, 1, 3, 1, 4, 1, 5, 1)]
        # Each further question is asked in a third of the ways in which the one before was.
        ways = 729 + 243 + 81 + 27 + 9 + 3
        self.assertEqual(both(*six, *rows), [[600, 0], [100 * ways, 0]])

    def test_the_question_that_matters(self):
        self.assertEqual(both(*burdened(1, 1, 9), row(1, 2, 1)), [[9, 2], [72, 2]])

    def test_a_tie_goes_to_the_lowest(self):
        parity = [row(1, 0, 1, 1, 1), row(1, 0, 2, 1, 2)]
        self.assertEqual(both(*burdened(5, 5), *parity), [[10, 0], [40, 0]])
        # By parity both questions are always asked, whichever comes first.
        self.assertEqual(both(*burdened(9, 2), *parity), [[11, 0], [44, 0]])
        self.assertEqual(both(*burdened(1, 9, 2), row(1, 1, 1, 2, 1), row(1, 1, 2, 2, 2)), [[11, 1], [88, 1]])

    def test_the_dearer_one_last_where_the_cheap_one_may_do(self):
        claims = [row(1, 0, 1, 1, 1)]
        self.assertEqual(both(*burdened(5, 1), *claims), [[6, 0], [4 * 1 + 2 * 5, 1]])
        self.assertEqual(both(*burdened(1, 5), *claims), [[6, 0], [4 * 1 + 2 * 5, 0]])
        self.assertEqual(both(*burdened(5, 5), *claims), [[10, 0], [4 * 5 + 2 * 5, 0]])

    def test_the_two_have_unlike_first_questions(self):
        # Question 1 tells the result; the answers 0 and 1 of question 0 tell question 1's.
        calls = [question(3, 4), question(2, 10), never(0, 1, 1, 2), never(0, 2, 1, 1), row(1, 1, 1)]
        self.assertEqual(both(*calls), [[10, 1], [4 * 4 + 2 * 10, 0]])

    def test_the_two_have_unlike_first_questions_the_other_way(self):
        calls = [question(2, 10), question(3, 4), never(0, 2, 1, 1), never(0, 1, 1, 2), row(1, 0, 1)]
        self.assertEqual(both(*calls), [[10, 0], [4 * 4 + 2 * 10, 1]])

    def test_two_cheap_ones_for_a_dear_one(self):
        # Question 2 is answered as 0 and 1 are both answered, so these do in its place.
        calls = [*burdened(3, 4), question(2, 9), never(0, 1, 1, 1, 2, 2), never(0, 2, 2, 1), never(1, 2, 2, 1)]
        self.assertEqual(both(*calls, row(1, 2, 1)), [[7, 0], [4 * 3 + 2 * 4, 0]])
        calls = [*burdened(3, 4), question(2, 6), never(0, 1, 1, 1, 2, 2), never(0, 2, 2, 1), never(1, 2, 2, 1)]
        self.assertEqual(both(*calls, row(1, 2, 1)), [[6, 2], [4 * 3 + 2 * 4, 0]])
        calls = [*burdened(3, 4), question(2, 5), never(0, 1, 1, 1, 2, 2), never(0, 2, 2, 1), never(1, 2, 2, 1)]
        self.assertEqual(both(*calls, row(1, 2, 1)), [[5, 2], [20, 0]])
        calls = [*burdened(3, 4), question(2, 4), never(0, 1, 1, 1, 2, 2), never(0, 2, 2, 1), never(1, 2, 2, 1)]
        self.assertEqual(both(*calls, row(1, 2, 1)), [[4, 2], [16, 2]])

    def test_burdens_one_and_a_hundred(self):
        claims = [row(1, 0, 1, 1, 1)]
        self.assertEqual(both(*burdened(100, 1), *claims), [[101, 0], [4 + 200, 1]])
        self.assertEqual(both(*burdened(1, 100), *claims), [[101, 0], [4 + 200, 0]])

    def test_a_question_whose_answer_can_t_be_other(self):
        calls = [*burdened(1, 6), never(0, 2), row(1, 0, 1, 1, 1)]
        self.assertEqual(both(*calls), [[6, 1], [12, 1]])
        self.assertEqual(both(question(3, 1), *burdened(6), never(0, 5), row(1, 0, 2, 1, 1)), [[6, 1], [12, 1]])

    def test_given_questions_are_not_asked_once_more(self):
        calls = [*burdened(5, 7, 2), row(1, 0, 1, 1, 1), row(2, 2, 1)]
        self.assertEqual(both(*calls, answer(0, 0)), [[9, 1], [4 * 7 + 2 * 2, 1]])
        self.assertEqual(both(*calls, answer(0, 1)), [[2, 2], [8, 2]])
        self.assertEqual(both(*calls, answer(0, 0), answer(2, 0)), [[7, 1], [14, 1]])

    def test_answers_that_differ_alike_need_not_be_asked_further(self):
        # Of the three answers two lead to more questions; the burden is that of each way.
        calls = [question(3, 2), *burdened(10, 30), row(1, 0, 1, 1, 1), row(1, 0, 2, 2, 1)]
        # Together: 12 ways are asked question 0, 4 of them question 1, 4 question 2.
        self.assertEqual(both(*calls), [[32, 0], [12 * 2 + 4 * 10 + 4 * 30, 0]])


class NextWithQuestionsAskedInSomeWays(unittest.TestCase):
    def test_a_question_hangs_on_the_first(self):
        calls = [*burdened(3, 5), asked(1, 0, 1), row(1, 1, 1)]
        self.assertEqual(both(*calls), [[8, 0], [3 * 3 + 2 * 5, 0]])

    def test_it_can_be_asked_once_it_is_asked_in_all(self):
        calls = [*burdened(3, 5), asked(1, 0, 1), row(1, 1, 1)]
        self.assertEqual(both(*calls, answer(0, 0)), [[5, 1], [10, 1]])
        self.assertEqual(both(*calls, asked(1, 0, 2)), [[5, 1], [20, 1]])
        self.assertEqual(both(*calls, never(0, 2)), [[5, 1], [10, 1]])

    def test_the_best_first_question_is_one_that_another_hangs_on(self):
        # Question 1 counts for nothing by itself, but that question 2, which is cheap, is asked.
        calls = [*burdened(50, 2, 3), asked(2, 1, 1), never(1, 2, 0, 2), never(2, 1, 0, 2), never(2, 2, 0, 1)]
        # Left: 0 0 0, 1 0 1, 0 1 -.
        self.assertEqual(both(*calls, row(1, 0, 1)), [[5, 1], [3 * 2 + 2 * 3, 1]])
        calls = [*burdened(4, 2, 3), asked(2, 1, 1), never(1, 2, 0, 2), never(2, 1, 0, 2), never(2, 2, 0, 1)]
        self.assertEqual(both(*calls, row(1, 0, 1)), [[4, 0], [12, 0]])

    def test_a_chain(self):
        calls = [*burdened(1, 2, 4), asked(1, 0, 1), asked(2, 1, 1), row(1, 2, 1)]
        # Left: 0 0 0, 0 0 1, 0 1 -, 1 - -.
        self.assertEqual(both(*calls), [[7, 0], [4 * 1 + 3 * 2 + 2 * 4, 0]])
        self.assertEqual(both(*calls, answer(1, 0)), [[4, 2], [8, 2]])

    def test_that_it_is_asked_may_be_the_result_itself(self):
        calls = [*burdened(6, 1), asked(1, 0, 1), row(1, 1, 3)]
        self.assertEqual(both(*calls), [[6, 0], [18, 0]])

    def test_cheap_but_asked_in_some_ways_alone(self):
        # Question 2 would tell the result cheaply, but can't be asked before question 0.
        calls = [*burdened(10, 8, 1), asked(2, 0, 1), never(1, 1, 2, 2), never(1, 2, 2, 1), row(1, 1, 1)]
        # Left: 0 0 0, 0 1 1, 1 0 -, 1 1 -.
        self.assertEqual(both(*calls), [[8, 1], [32, 1]])
        self.assertEqual(both(*calls, answer(0, 0)), [[1, 2], [2, 2]])


class NextAndTheLine(unittest.TestCase):
    def test_changes_nothing(self):
        calls = [*burdened(5, 1), row(1, 0, 1, 1, 1)]
        self.assertEqual(run(*calls, worst(), together(), worst(), together(), answer(0, 0), together(), forget(0),
                             together())[3:], [[6, 0], [14, 1], [6, 0], [14, 1], [2], [2, 1], [4], [14, 1]])

    def test_begins_in_the_midst(self):
        self.assertEqual(end(*burdened(5, 9), row(1, 0, 1), begins(), *burdened(8), worst()), [0])
        self.assertEqual(end(*burdened(5, 9), row(1, 0, 1), begins(), *burdened(8), row(1, 0, 1), worst()), [8, 0])

    def test_refused_questions_leave_the_burdens(self):
        self.assertEqual(both(question(2, 101), question(2, 4), question(4, 9), question(3, 0), row(1, 0, 1)),
                         [[4, 0], [8, 0]])
