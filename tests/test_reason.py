import unittest

from tests.helper import answer, asked, begins, end, forget, left, never, other, question, reason, row, run

TWO = [question(), question()]
FOUR = [question()] * 4
BOTH = row(1, 0, 1, 1, 1)


class Reason(unittest.TestCase):
    def test_none_needed(self):
        self.assertEqual(run(reason()), [[0]])
        self.assertEqual(end(*TWO, reason()), [0])
        self.assertEqual(end(*TWO, other(4), answer(0, 1), answer(1, 0), reason()), [0])
        self.assertEqual(end(*TWO, row(2, 0, 3), answer(0, 1), reason()), [0])

    def test_one(self):
        self.assertEqual(end(*TWO, BOTH, answer(0, 1), reason()), [1, 0])
        self.assertEqual(end(*TWO, BOTH, answer(1, 1), reason()), [1, 1])
        self.assertEqual(end(*TWO, BOTH, answer(0, 0), answer(1, 1), reason()), [1, 1])
        self.assertEqual(end(*TWO, BOTH, answer(0, 1), answer(1, 0), reason()), [1, 0])

    def test_several(self):
        self.assertEqual(end(*TWO, BOTH, answer(0, 0), answer(1, 0), reason()), [2, 0, 1])
        self.assertEqual(end(*TWO, BOTH, answer(1, 0), answer(0, 0), reason()), [2, 0, 1])

    def test_all_six(self):
        six = [question(3)] * 6
        given = [answer(q, 0) for q in (3, 5, 1, 0, 4, 2)]
        self.assertEqual(end(*six, row(1, 0, 1, 1, 1, 2, 1, 3, 1, 4, 1, 5, 1), *given, reason()),
                         [6, 0, 1, 2, 3, 4, 5])

    def test_of_one_each_the_lowest(self):
        self.assertEqual(end(*TWO, BOTH, answer(0, 1), answer(1, 1), reason()), [1, 0])
        self.assertEqual(end(*TWO, BOTH, answer(1, 1), answer(0, 1), reason()), [1, 0])

    def test_fewer_before_lower(self):
        rows = [row(1, 0, 1, 1, 1), row(1, 3, 1)]
        given = [answer(q, 0) for q in range(4)]
        self.assertEqual(end(*FOUR, *rows, *given, reason()), [1, 3])

    def test_of_two_each_the_lesser_where_they_first_differ(self):
        given = [answer(q, 0) for q in range(4)]
        self.assertEqual(end(*FOUR, row(1, 1, 1, 2, 1), row(1, 0, 1, 3, 1), *given, reason()), [2, 0, 3])
        self.assertEqual(end(*FOUR, row(1, 0, 1, 3, 1), row(1, 0, 1, 2, 1), *given, reason()), [2, 0, 2])
        self.assertEqual(end(*FOUR, row(1, 2, 1, 3, 1), row(1, 1, 1, 3, 1), *given, reason()), [2, 1, 3])

    def test_of_three_each_the_first(self):
        five = [question()] * 5
        given = [answer(q, 0) for q in range(5)]
        rows = [row(1, 1, 1, 2, 1, 3, 1), row(1, 0, 1, 3, 1, 4, 1), row(1, 0, 1, 2, 1, 4, 1)]
        self.assertEqual(end(*five, *rows, *given, reason()), [3, 0, 2, 4])

    def test_given_answers_alone_count(self):
        given = [answer(1, 0), answer(2, 0)]
        self.assertEqual(end(*FOUR, row(1, 1, 1, 2, 1), row(1, 0, 1), *given, reason()), [2, 1, 2])

    def test_by_nevers(self):
        # Whoever has answer 0 at question 2 has it at question 0 as well.
        three = [question()] * 3
        calls = [*three, never(0, 2, 2, 1), row(1, 0, 1), answer(2, 0)]
        self.assertEqual(end(*calls, reason()), [1, 2])
        self.assertEqual(end(*calls, answer(0, 0), reason()), [1, 0])

    def test_not_the_result_but_the_row_may_differ(self):
        self.assertEqual(end(*TWO, row(1, 0, 1), row(1, 1, 1), answer(0, 0), answer(1, 0), reason()), [1, 0])
        self.assertEqual(end(*TWO, row(2, 0, 1), row(1, 1, 1), answer(0, 1), answer(1, 0), reason()), [2, 0, 1])


class ReasonWithQuestionsAskedInSomeWays(unittest.TestCase):
    def test_a_given_answer_by_which_another_is_not_asked(self):
        calls = [*TWO, asked(1, 0, 1), row(1, 1, 1), answer(0, 1)]
        self.assertEqual(end(*calls, reason()), [1, 0])

    def test_forgetting_would_make_others_asked(self):
        # Without question 0's answer, question 2 is asked in some ways and makes another result.
        three = [question()] * 3
        calls = [*three, asked(2, 0, 1), row(1, 2, 1), row(2, 1, 1), answer(0, 1), answer(1, 0)]
        self.assertEqual(end(*calls, reason()), [2, 0, 1])
        self.assertEqual(run(*calls, left(), forget(0), left(), reason())[-4:], [[1, 2, 1, 0], [3], [3, 1, 1, 1], [-7]])

    def test_a_given_answer_tells_that_its_question_is_asked(self):
        calls = [*TWO, asked(1, 0, 1), row(1, 0, 1), answer(1, 1)]
        self.assertEqual(end(*calls, reason()), [1, 1])
        self.assertEqual(end(*calls, answer(0, 0), reason()), [1, 0])

    def test_one_given_behind_may_tell_more_than_two_before(self):
        three = [question()] * 3
        calls = [*three, asked(2, 0, 1, 1, 1), row(1, 0, 1, 1, 1)]
        self.assertEqual(end(*calls, answer(0, 0), answer(1, 0), reason()), [2, 0, 1])
        self.assertEqual(end(*calls, answer(0, 0), answer(1, 0), answer(2, 1), reason()), [1, 2])


class ReasonIsRefused(unittest.TestCase):
    def test_not_decided(self):
        self.assertEqual(end(*TWO, BOTH, reason()), [-7])
        self.assertEqual(end(*TWO, BOTH, answer(0, 0), reason()), [-7])
        self.assertEqual(end(*TWO, BOTH, answer(1, 0), reason()), [-7])
        self.assertEqual(end(*TWO, question(), row(1, 2, 1), answer(0, 0), answer(1, 0), reason()), [-7])

    def test_not_decided_any_more(self):
        self.assertEqual(run(*TWO, BOTH, answer(0, 1), reason(), forget(0), reason(), answer(0, 1), reason())[4:],
                         [[1, 0], [4], [-7], [2], [1, 0]])

    def test_changes_nothing(self):
        calls = [*TWO, BOTH, answer(0, 0), answer(1, 1)]
        self.assertEqual(run(*calls, reason(), left(), reason(), forget(1), reason(), left())[5:],
                         [[1, 1], [1, 1, 2], [1, 1], [2], [-7], [2, 1, 1]])

    def test_begins_in_the_midst(self):
        self.assertEqual(end(*TWO, BOTH, answer(0, 1), begins(), reason()), [0])
