import unittest

from tests.helper import GREATEST, answer, asked, firsts, forget, last, never, question


class Question(unittest.TestCase):
    def test_answers_its_number(self):
        self.assertEqual(firsts(question(2, 5), question(3, 50), question(2, 7)), [0, 1, 2])

    def test_two_and_three_answers(self):
        self.assertEqual(firsts(question(2), answer(0, 1), forget(0)), [0, 1, 2])
        self.assertEqual(firsts(question(3), answer(0, 2), forget(0)), [0, 1, 3])

    def test_other_numbers_of_answers_are_refused(self):
        for how_many in (0, 1, 4, 5, 258, GREATEST - 1, GREATEST):
            with self.subTest(how_many=how_many):
                self.assertEqual(firsts(question(how_many, 1), question(2, 1)), [-1, 0])

    def test_burdens_from_one_to_a_hundred(self):
        for burden in (1, 2, 50, 99, 100):
            with self.subTest(burden=burden):
                self.assertEqual(firsts(question(2, burden), question(3, burden)), [0, 1])

    def test_other_burdens_are_refused(self):
        for burden in (0, 101, 102, 357, GREATEST - 1, GREATEST):
            with self.subTest(burden=burden):
                self.assertEqual(firsts(question(2, burden), question(3, burden), question(3, 1)), [-1, -1, 0])

    def test_six_and_no_more(self):
        six = [question(3)] * 6
        self.assertEqual(firsts(*six, question(2), question(3)), [0, 1, 2, 3, 4, 5, -5, -5])

    def test_wrong_numbers_are_told_before_no_room(self):
        six = [question()] * 6
        wrong = [question(1, 1), question(4, 1), question(2, 0), question(2, 101), question(GREATEST, GREATEST)]
        self.assertEqual(firsts(*six, *wrong)[6:], [-1] * 5)

    def test_a_refusal_changes_nothing(self):
        calls = [question(3), question(2), answer(0, 0)]
        self.assertEqual(firsts(*calls, question(4, 1), question(2, 101), forget(0)), [0, 1, 2, -1, -1, 6])
        six = [question(3)] * 6
        self.assertEqual(firsts(*six, question(2), answer(6, 0), answer(0, 0), forget(0))[6:], [-5, -2, 243, 729])

    def test_one_more_is_asked_in_all_ways_that_are_left(self):
        self.assertEqual(
            firsts(question(2), answer(0, 0), question(3), answer(1, 2), forget(1), forget(0)),
            [0, 1, 1, 1, 3, 6])

    def test_one_more_behind_nevers_and_claims(self):
        calls = [question(2), question(2), asked(1, 0, 1), never(0, 1, 1, 2), question(3)]
        self.assertEqual(last(*calls, answer(2, 0)), 2)
        self.assertEqual(last(*calls, answer(2, 0), forget(2)), 6)

    def test_the_most_ways(self):
        self.assertEqual(last(*[question(3)] * 6, answer(5, 2), forget(5)), 729)
        self.assertEqual(last(*[question(2)] * 6, answer(5, 1), forget(5)), 64)
