import unittest

from tests.helper import GREATEST, answer, firsts, forget, other, question, row


class Other(unittest.TestCase):
    def test_results_from_nought_to_nine(self):
        for result in range(10):
            with self.subTest(result=result):
                self.assertEqual(firsts(other(result)), [0])
        self.assertEqual(firsts(*[other(result) for result in range(10)]), [0] * 10)

    def test_result_above_nine_is_refused(self):
        for result in (10, 11, 256, GREATEST - 1, GREATEST):
            with self.subTest(result=result):
                self.assertEqual(firsts(other(result), other(9)), [-1, 0])

    def test_leaves_ways_and_rows(self):
        self.assertEqual(
            firsts(question(), row(1, 0, 1), answer(0, 0), other(9), other(10), row(2, 0, 2), forget(0)),
            [0, 0, 1, 0, -1, 1, 2])
