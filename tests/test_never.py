import unittest

from tests.helper import GREATEST, answer, asked, firsts, forget, last, never, question

TWO = [question(2), question(3)]


class Never(unittest.TestCase):
    def test_answers_its_number(self):
        self.assertEqual(firsts(*TWO, never(0, 1), never(1, 1), never(0, 2, 1, 2))[2:], [0, 1, 2])

    def test_what_it_tells_is_not_left(self):
        self.assertEqual(firsts(*TWO, never(0, 1, 1, 6), answer(0, 0), forget(0), answer(0, 1))[2:], [0, 1, 4, 3])
        self.assertEqual(firsts(*TWO, never(0, 1, 1, 6), answer(0, 0), answer(1, 1), answer(1, 2))[3:], [1, -6, -6])

    def test_holds_if_all_its_claims_do(self):
        self.assertEqual(last(*TWO, never(0, 1, 1, 1), answer(1, 0), forget(1)), 5)
        self.assertEqual(last(*TWO, never(1, 1, 0, 1), answer(1, 0), forget(1)), 5)

    def test_several(self):
        self.assertEqual(last(*TWO, never(0, 1, 1, 1), never(0, 2, 1, 2), answer(0, 0), forget(0)), 4)

    def test_a_claim_of_a_question_that_is_not_asked_does_not_hold(self):
        calls = [*TWO, asked(1, 0, 1), never(1, 7)]
        self.assertEqual(firsts(*calls, answer(0, 0), answer(0, 1), forget(0))[2:], [1, 0, -6, 1, 1])

    def test_may_claim_any_question(self):
        six = [question(3)] * 6
        for number in range(6):
            with self.subTest(number=number):
                self.assertEqual(last(*six, never(number, 4), answer(number, 0), forget(number)), 2 * 243)

    def test_sets_with_one_and_with_all_answers(self):
        for chosen, left in ((1, 5), (2, 5), (4, 5), (3, 4), (5, 4), (6, 4), (7, 3)):
            with self.subTest(chosen=chosen):
                self.assertEqual(last(*TWO, never(0, 1, 1, chosen), answer(0, 1), forget(0)), left)

    def test_claims_of_one_question_that_share_none_never_hold(self):
        self.assertEqual(firsts(*TWO, never(0, 1, 0, 2), answer(0, 0), forget(0))[2:], [0, 3, 6])

    def test_claims_of_twelve_pairs(self):
        self.assertEqual(last(*TWO, never(*[0, 3] * 11, 0, 1), answer(0, 1), forget(0)), 3)
        self.assertEqual(last(*TWO, never(*[0, 3] * 10, 0, 1, 1, 4), answer(0, 1), forget(0)), 5)
        self.assertEqual(last(*TWO, never(*[0, 3] * 11, 2, 1)), -1)

    def test_ten_and_no_more(self):
        ten = [never(0, 1)] * 10
        self.assertEqual(firsts(*TWO, *ten, never(0, 1), never(1, 1))[2:], [*range(10), -5, -5])

    def test_all_of_ten_count(self):
        questions = [question(3), question(3), question(2)]
        pairs = [(1 << a, 1 << b) for a in range(3) for b in range(3)]
        nevers = [never(0, a, 1, b, 2, 1) for a, b in pairs] + [never(0, 1, 1, 1, 2, 2)]
        self.assertEqual(firsts(*questions, *nevers, answer(2, 1), forget(2), answer(2, 0))[13:], [8, 8, -6])


class NeverIsRefused(unittest.TestCase):
    def test_no_claims(self):
        self.assertEqual(last(*TWO, never()), -1)
        self.assertEqual(firsts(never()), [-1])

    def test_claim_of_no_such_question(self):
        for claimed in (2, 3, 6, GREATEST - 1, GREATEST):
            with self.subTest(claimed=claimed):
                self.assertEqual(last(*TWO, never(claimed, 1)), -1)
        self.assertEqual(firsts(never(0, 1)), [-1])

    def test_empty_set(self):
        self.assertEqual(last(*TWO, never(0, 0)), -1)
        self.assertEqual(last(*TWO, never(1, 0)), -1)

    def test_set_with_an_answer_that_the_question_has_not(self):
        for claimed, chosen in ((0, 4), (0, 5), (0, 7), (0, GREATEST), (1, 8), (1, 9), (1, 15), (1, GREATEST)):
            with self.subTest(claimed=claimed, chosen=chosen):
                self.assertEqual(last(*TWO, never(claimed, chosen)), -1)

    def test_one_wrong_claim_wherever_it_stands(self):
        for wrong in ((2, 1), (0, 0), (0, 4), (GREATEST, GREATEST)):
            for place in range(3):
                claims = [(0, 1), (1, 4)]
                claims.insert(place, wrong)
                with self.subTest(claims=claims):
                    self.assertEqual(last(*TWO, never(*[n for claim in claims for n in claim])), -1)

    def test_nothing_would_be_left(self):
        self.assertEqual(last(*TWO, never(0, 3)), -6)
        self.assertEqual(last(*TWO, never(1, 7)), -6)
        self.assertEqual(last(*TWO, never(0, 3, 1, 7)), -6)
        self.assertEqual(last(*TWO, never(0, 1), never(0, 2)), -6)

    def test_nothing_would_be_left_with_what_is_given(self):
        self.assertEqual(firsts(*TWO, answer(0, 1), never(0, 2), forget(0), never(0, 2))[2:], [3, -6, 6, 0])

    def test_wrong_claims_are_told_before_no_room(self):
        ten = [never(0, 1)] * 10
        for claims in ((), (0, 0), (2, 1), (0, 4)):
            with self.subTest(claims=claims):
                self.assertEqual(last(*TWO, *ten, never(*claims)), -1)

    def test_wrong_claims_are_told_before_nothing_left(self):
        self.assertEqual(last(*TWO, never(0, 3, 1, 8)), -1)
        self.assertEqual(last(*TWO, never(0, 3, 0, 0)), -1)

    def test_no_room_is_told_before_nothing_left(self):
        nine = [never(0, 1)] * 9
        self.assertEqual(last(*TWO, *nine, never(0, 2)), -6)
        self.assertEqual(last(*TWO, *nine, never(0, 1), never(0, 2)), -5)

    def test_a_refusal_changes_nothing(self):
        calls = [*TWO, never(0, 1, 1, 1)]
        for refused in (never(), never(2, 1), never(0, 2, 1, 8), never(0, 0), never(0, 3), never(1, 7)):
            with self.subTest(refused=refused):
                self.assertLess(last(*calls, refused), 0)
                self.assertEqual(firsts(*calls, refused, answer(0, 1), forget(0), never(0, 2, 1, 2))[4:], [3, 5, 1])

    def test_one_refused_for_no_room_does_not_hold(self):
        ten = [never(0, 1)] * 10
        self.assertEqual(last(*TWO, *ten, never(1, 1), answer(1, 0)), 1)
