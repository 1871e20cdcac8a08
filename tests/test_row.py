import unittest

from tests.helper import GREATEST, answer, asked, firsts, forget, last, never, question, row

TWO = [question(2), question(3)]


class Row(unittest.TestCase):
    def test_answers_its_number(self):
        self.assertEqual(firsts(*TWO, row(3, 0, 1), row(3, 1, 1), row(4, 0, 2, 1, 2))[2:], [0, 1, 2])

    def test_results_from_nought_to_nine(self):
        self.assertEqual(firsts(*TWO, *[row(result, 0, 1) for result in range(10)])[2:], list(range(10)))

    def test_twelve_and_no_more(self):
        twelve = [row(0, 0, 1)] * 12
        self.assertEqual(firsts(*TWO, *twelve, row(0, 0, 1), row(9, 1, 7))[2:], [*range(12), -5, -5])

    def test_sets_with_one_and_with_all_answers(self):
        self.assertEqual(firsts(*TWO, *[row(1, 1, chosen) for chosen in range(1, 8)])[2:], list(range(7)))
        self.assertEqual(firsts(*TWO, *[row(1, 0, chosen) for chosen in range(1, 4)])[2:], list(range(3)))

    def test_claims_of_twelve_pairs(self):
        self.assertEqual(last(*TWO, row(9, *[0, 1] * 12)), 0)
        self.assertEqual(last(*TWO, row(9, *[0, 1, 1, 7] * 6)), 0)
        self.assertEqual(last(*TWO, row(9, *[0, 1] * 11, 0, 4)), -1)

    def test_claims_that_never_hold_are_a_row_too(self):
        self.assertEqual(firsts(*TWO, row(1, 0, 1, 0, 2), row(1, 0, 1))[2:], [0, 1])

    def test_leaves_the_ways_that_are_left(self):
        calls = [*TWO, asked(1, 0, 1), never(1, 1), answer(0, 0)]
        self.assertEqual(firsts(*calls, row(1, 0, 3), row(2, 1, 7), forget(0))[4:], [2, 0, 1, 3])

    def test_may_claim_any_question(self):
        six = [question(3)] * 6
        self.assertEqual(firsts(*six, *[row(1, number, 7) for number in range(6)])[6:], list(range(6)))


class RowIsRefused(unittest.TestCase):
    def test_result_above_nine(self):
        for result in (10, 11, 256, GREATEST - 1, GREATEST):
            with self.subTest(result=result):
                self.assertEqual(firsts(*TWO, row(result, 0, 1), row(9, 0, 1))[2:], [-1, 0])

    def test_no_claims(self):
        self.assertEqual(last(*TWO, row(1)), -1)
        self.assertEqual(firsts(row(1)), [-1])

    def test_claim_of_no_such_question(self):
        for claimed in (2, 3, 6, GREATEST - 1, GREATEST):
            with self.subTest(claimed=claimed):
                self.assertEqual(last(*TWO, row(1, claimed, 1)), -1)
        self.assertEqual(firsts(row(1, 0, 1)), [-1])

    def test_empty_set(self):
        self.assertEqual(last(*TWO, row(1, 0, 0)), -1)
        self.assertEqual(last(*TWO, row(1, 1, 0)), -1)

    def test_set_with_an_answer_that_the_question_has_not(self):
        for claimed, chosen in ((0, 4), (0, 5), (0, 7), (0, GREATEST), (1, 8), (1, 9), (1, 15), (1, GREATEST)):
            with self.subTest(claimed=claimed, chosen=chosen):
                self.assertEqual(last(*TWO, row(1, claimed, chosen)), -1)

    def test_one_wrong_claim_wherever_it_stands(self):
        for wrong in ((2, 1), (0, 0), (0, 4), (GREATEST, GREATEST)):
            for place in range(3):
                claims = [(0, 1), (1, 4)]
                claims.insert(place, wrong)
                with self.subTest(claims=claims):
                    self.assertEqual(last(*TWO, row(1, *[n for claim in claims for n in claim])), -1)

    def test_wrong_numbers_are_told_before_no_room(self):
        twelve = [row(0, 0, 1)] * 12
        for refused in (row(10, 0, 1), row(1), row(1, 2, 1), row(1, 0, 0), row(1, 0, 4), row(GREATEST)):
            with self.subTest(refused=refused):
                self.assertEqual(last(*TWO, *twelve, refused), -1)

    def test_a_refusal_changes_nothing(self):
        for refused in (row(10, 0, 1), row(1), row(1, 2, 1), row(1, 0, 0), row(1, 0, 4)):
            with self.subTest(refused=refused):
                self.assertEqual(
                    firsts(*TWO, row(1, 0, 1), refused, row(1, 0, 1), answer(0, 0), forget(0))[2:],
                    [0, -1, 1, 3, 6])
