import unittest

from tests.helper import GREATEST, answer, asked, firsts, forget, last, never, question

TWO = [question(2), question(3)]
THREE = [question(2), question(3), question(3)]


def ways(*calls):
    """How many ways are left: the first question's answer given and forgotten tells it."""
    for given in range(3):
        told = firsts(*calls, answer(0, given), forget(0))
        if told[-2] > 0:
            return told[-1]
    raise AssertionError("nothing is left")


class Asked(unittest.TestCase):
    def test_answers_how_many_rows_are_told_for_the_question(self):
        self.assertEqual(
            firsts(*THREE, asked(1, 0, 1), asked(2, 0, 1), asked(2, 1, 1), asked(1, 0, 2))[3:],
            [1, 1, 2, 2])

    def test_with_nothing_told_it_is_always_asked(self):
        self.assertEqual(ways(*TWO), 6)

    def test_with_one_row_it_is_asked_where_that_holds_alone(self):
        self.assertEqual(ways(*TWO, asked(1, 0, 1)), 4)
        self.assertEqual(firsts(*TWO, asked(1, 0, 1), answer(0, 0), forget(0), answer(0, 1))[3:], [3, 4, 1])
        self.assertEqual(firsts(*TWO, asked(1, 0, 2), answer(0, 0), forget(0), answer(0, 1))[3:], [1, 4, 3])

    def test_with_several_rows_it_is_asked_where_one_holds(self):
        self.assertEqual(ways(*THREE, asked(2, 0, 1)), 12)
        self.assertEqual(ways(*THREE, asked(2, 0, 1), asked(2, 1, 4)), 14)
        self.assertEqual(ways(*THREE, asked(2, 0, 1), asked(2, 1, 4), asked(2, 0, 2, 1, 3)), 18)

    def test_a_row_holds_if_all_its_claims_do(self):
        self.assertEqual(ways(*THREE, asked(2, 0, 1, 1, 4)), 8)
        self.assertEqual(ways(*THREE, asked(2, 1, 4, 0, 1)), 8)
        self.assertEqual(ways(*THREE, asked(2, 0, 3, 1, 5)), 14)

    def test_a_claim_of_a_question_that_is_not_asked_does_not_hold(self):
        calls = [*THREE, asked(1, 0, 1), asked(2, 1, 7)]
        self.assertEqual(ways(*calls), 10)
        self.assertEqual(firsts(*calls, answer(0, 1), answer(1, 0), answer(2, 0))[5:], [1, -6, -6])

    def test_sets_with_one_and_with_all_answers(self):
        for chosen, left in ((1, 5), (2, 5), (4, 5), (3, 7), (5, 7), (6, 7), (7, 9)):
            with self.subTest(chosen=chosen):
                self.assertEqual(ways(question(3), question(3), asked(1, 0, chosen)), left)
        self.assertEqual(ways(*TWO, asked(1, 0, 3)), 6)

    def test_a_claim_of_all_answers_still_asks_that_the_question_is_asked(self):
        self.assertEqual(ways(*THREE, asked(1, 0, 2), asked(2, 1, 7)), 1 + 9)

    def test_claims_of_one_question_that_share_an_answer(self):
        self.assertEqual(ways(question(3), question(2), asked(1, 0, 3, 0, 6)), 4)

    def test_claims_of_one_question_that_share_none_never_hold(self):
        calls = [*TWO, asked(1, 0, 1, 0, 2)]
        self.assertEqual(firsts(*calls, answer(1, 0), answer(0, 0), forget(0))[2:], [1, -6, 1, 2])

    def test_claims_of_twelve_pairs(self):
        self.assertEqual(last(*TWO, asked(1, *[0, 1] * 12), answer(0, 0)), 3)
        self.assertEqual(last(*TWO, asked(1, *[0, 3] * 11, 0, 2), answer(0, 0)), 1)
        self.assertEqual(last(*TWO, asked(1, *[0, 3] * 11, 0, 4)), -1)

    def test_four_rows_for_a_question_and_no_more(self):
        rows = [asked(1, 0, 1)] * 4
        self.assertEqual(firsts(*TWO, *rows, asked(1, 0, 1), asked(1, 0, 2))[2:], [1, 2, 3, 4, -5, -5])

    def test_each_question_has_four_rows_of_its_own(self):
        told = firsts(*THREE, *[asked(1, 0, 1)] * 5, *[asked(2, 0, 1)] * 5)
        self.assertEqual(told[3:], [1, 2, 3, 4, -5, 1, 2, 3, 4, -5])

    def test_six_questions_each_asked_by_the_one_before(self):
        calls = [question(2)] * 6 + [asked(q, q - 1, 2) for q in range(1, 6)]
        self.assertEqual(ways(*calls), 7)

    def test_row_told_later_is_one_more_way_to_be_asked(self):
        told = firsts(*TWO, asked(1, 0, 1), answer(0, 1), forget(0), asked(1, 0, 2), answer(0, 1), forget(0))
        self.assertEqual(told[2:], [1, 1, 4, 2, 3, 6])


class AskedIsRefused(unittest.TestCase):
    def test_no_such_question(self):
        for number in (2, 3, 6, GREATEST - 1, GREATEST):
            with self.subTest(number=number):
                self.assertEqual(last(*TWO, asked(number, 0, 1)), -2)
        self.assertEqual(firsts(asked(0, 0, 1)), [-2])

    def test_no_claims(self):
        self.assertEqual(last(*TWO, asked(1)), -1)
        self.assertEqual(last(*TWO, asked(0)), -1)

    def test_claim_of_the_question_itself_or_of_one_behind(self):
        for number, claimed in ((0, 0), (0, 1), (0, 2), (1, 1), (1, 2), (2, 2)):
            with self.subTest(number=number, claimed=claimed):
                self.assertEqual(last(*THREE, asked(number, claimed, 1)), -1)

    def test_claim_of_no_such_question(self):
        for claimed in (3, 6, GREATEST - 1, GREATEST):
            with self.subTest(claimed=claimed):
                self.assertEqual(last(*THREE, asked(2, claimed, 1)), -1)

    def test_empty_set(self):
        self.assertEqual(last(*THREE, asked(2, 0, 0)), -1)
        self.assertEqual(last(*THREE, asked(2, 1, 0)), -1)

    def test_set_with_an_answer_that_the_question_has_not(self):
        for claimed, chosen in ((0, 4), (0, 5), (0, 7), (0, GREATEST), (1, 8), (1, 9), (1, 15), (1, GREATEST)):
            with self.subTest(claimed=claimed, chosen=chosen):
                self.assertEqual(last(*THREE, asked(2, claimed, chosen)), -1)

    def test_one_wrong_claim_wherever_it_stands(self):
        for wrong in ((2, 1), (3, 1), (0, 0), (0, 4)):
            for place in range(3):
                claims = [(0, 1), (1, 4)]
                claims.insert(place, wrong)
                with self.subTest(claims=claims):
                    self.assertEqual(last(*THREE, asked(2, *[n for claim in claims for n in claim])), -1)

    def test_a_given_question_would_not_be_asked(self):
        self.assertEqual(firsts(*TWO, answer(0, 0), answer(1, 2), asked(1, 0, 2))[2:], [3, 1, -6])
        self.assertEqual(firsts(*TWO, answer(1, 2), asked(1, 0, 2))[2:], [2, 1])
        self.assertEqual(firsts(*TWO, answer(1, 2), asked(1, 0, 1, 0, 2))[2:], [2, -6])

    def test_a_never_would_hold_in_all_ways(self):
        calls = [*TWO, asked(1, 0, 1), never(1, 7)]
        self.assertEqual(firsts(*calls, asked(1, 0, 2), answer(0, 0), answer(0, 1))[2:], [1, 0, -6, -6, 1])

    def test_a_row_that_leaves_nothing_by_another_question(self):
        calls = [*THREE, asked(1, 0, 1), asked(2, 1, 1), answer(2, 0), asked(1, 0, 1, 0, 2)]
        self.assertEqual(firsts(*calls)[3:], [1, 1, 1, 2])
        told = firsts(*THREE, answer(2, 0), asked(2, 1, 1), asked(1, 0, 1, 0, 2), answer(1, 0), forget(1))
        self.assertEqual(told[3:], [6, 1, -6, 2, 2])

    def test_no_such_question_is_told_first(self):
        for claims in ((), (0, 0), (5, 1), (GREATEST, GREATEST)):
            with self.subTest(claims=claims):
                self.assertEqual(last(*TWO, asked(2, *claims)), -2)

    def test_wrong_claims_are_told_before_no_room(self):
        rows = [asked(1, 0, 1)] * 4
        for claims in ((), (0, 0), (1, 1), (0, 4)):
            with self.subTest(claims=claims):
                self.assertEqual(last(*TWO, *rows, asked(1, *claims)), -1)

    def test_no_room_is_told_before_nothing_left(self):
        calls = [*TWO, *[asked(1, 0, 1)] * 3, never(1, 7)]
        self.assertEqual(last(*calls, asked(1, 0, 2)), -6)
        self.assertEqual(last(*calls, asked(1, 0, 1), asked(1, 0, 2)), -5)

    def test_wrong_claims_are_told_before_nothing_left(self):
        self.assertEqual(last(*TWO, answer(0, 0), answer(1, 0), asked(1, 0, 2, 1, 1)), -1)

    def test_a_refusal_changes_nothing(self):
        calls = [*TWO, asked(1, 0, 1), never(1, 7, 0, 2)]
        for refused in (asked(2, 0, 1), asked(1), asked(1, 1, 1), asked(1, 0, 2, 1, 1), asked(1, 0, 4)):
            with self.subTest(refused=refused):
                self.assertLess(last(*calls, refused), 0)
                self.assertEqual(firsts(*calls, refused, answer(0, 0), forget(0), asked(1, 0, 2))[5:], [3, 4, 2])

    def test_a_row_refused_for_nothing_left_is_not_counted(self):
        calls = [*TWO, answer(0, 0), answer(1, 0), asked(1, 0, 2), asked(1, 0, 2)]
        self.assertEqual(firsts(*calls, forget(1), forget(0), asked(1, 0, 2), answer(0, 0))[2:],
                         [3, 1, -6, -6, 3, 6, 1, 1])

    def test_a_row_refused_for_no_room_does_not_hold(self):
        calls = [*TWO, *[asked(1, 0, 1)] * 4, asked(1, 0, 2)]
        self.assertEqual(last(*calls, answer(0, 1)), 1)
