"""Forms with as much as a form may have, and lines with as many calls as a line may have."""

import time
import unittest

from tests.helper import (
    answer, asked, check, forget, left, needless, never, other, question, reason, results, row, run, state, together,
    worst)

GOOD_TIME = 6


def claims_of_all(*sets):
    """Twelve claims: each question twice."""
    return [number for q in range(6) for number in (q, sets[q])] * 2


SIX = [question(3, burden) for burden in (100, 99, 98, 97, 96, 95)]
# Of each question's four rows the first three hold in few ways, and the last one always.
ASKED = [asked(q, *[number for before in range(q) for number in (before, chosen)])
         for q in range(1, 6) for chosen in (1, 2, 4, 7)]
# Nevers that hold in one way each, and are seen to hold at the last claim alone.
NEVERS = [never(*claims_of_all(*[1 << number % 3] * 4, 1 << number // 3 % 3, 1 << number // 9)) for number in range(10)]
ROWS = [row(number % 10, *claims_of_all(*[7] * 3, 1 << number % 3, 1 << number // 3 % 3, 3 if number < 9 else 1))
        for number in range(12)]
# Rows that overlap so that hardly anything is decided before the last questions.
WIDE_ROWS = [row(number % 10, *claims_of_all(*[(3, 5, 6)[(number // (1 + q % 3) + q) % 3] for q in range(6)]))
             for number in range(12)]
GREATEST_FORM = [*SIX, *ASKED, *NEVERS, *ROWS, other(9)]


class Greatest(unittest.TestCase):
    def test_a_form_of_which_all_is_used(self):
        told = run(*GREATEST_FORM, left(), results(), state(5), check(1, 1, 1, 1, 1, 1), check(3, 3, 3, 3, 3, 3))
        self.assertEqual(told[:-5], [
            *[[q] for q in range(6)], *[[n] for q in range(5) for n in (1, 2, 3, 4)], *[[n] for n in range(10)],
            *[[n] for n in range(12)], [0]])
        self.assertEqual(told[-5:], [[719, 1, 1, 1, 1, 1, 3], [10, *range(10)], [2, 0, 1, 2], [1, 3, 0], [0, 9]])

    def test_twelve_calls_in_good_time(self):
        # Too long to work out by hand: the slow form answers the same, but takes some seconds for each.
        told_for = [(worst(), [288, 3]), (together(), [160173, 5]), (reason(), [-7]), (needless(), [3, 0, 1, 2])]
        for twelve in ([told_for[0]] * 12, [told_for[1]] * 12, [told_for[2]] * 12, [told_for[3]] * 12, told_for * 3):
            with self.subTest(twelve=twelve):
                begun = time.monotonic()
                told = run(*GREATEST_FORM, *[one for one, answered in twelve])
                self.assertLess(time.monotonic() - begun, GOOD_TIME)
                self.assertEqual(told[-12:], [answered for one, answered in twelve])

    def test_twelve_calls_where_little_is_decided(self):
        begun = time.monotonic()
        told = run(*SIX, *WIDE_ROWS, other(9), *[worst(), together()] * 6)
        self.assertLess(time.monotonic() - begun, GOOD_TIME)
        # As above, the slow form answers the same.
        self.assertEqual(told[-12:], [[585, 0], [398181, 3]] * 6)

    def test_twelve_calls_with_all_given_but_forgotten_in_between(self):
        given = [answer(q, 2) for q in range(6)]
        begun = time.monotonic()
        told = run(*GREATEST_FORM, *given, *[reason(), forget(5), worst(), answer(5, 2)] * 6)
        self.assertLess(time.monotonic() - begun, GOOD_TIME)
        self.assertEqual(told[-4:], told[-8:-4])

    def test_a_hundred_calls_in_good_time(self):
        calls = [*SIX, *NEVERS, *ROWS, *[worst(), together()] * 6]
        calls += [left(), results(), state(5), answer(5, 1), forget(5)] * 12
        begun = time.monotonic()
        told = run(*calls)
        self.assertEqual(len(told), 100)
        self.assertLess(time.monotonic() - begun, GOOD_TIME)

    def test_every_question_in_every_way(self):
        # Without a row that decides early all six are asked at the worst, and no way of asking is better.
        parity = [row(1, 0, 1, 1, 1, 2, 1, 3, 1, 4, 1, 5, 1), row(2, 0, 2, 1, 2, 2, 2, 3, 2, 4, 2, 5, 2),
                  row(3, 0, 4, 1, 4, 2, 4, 3, 4, 4, 4, 5, 4)]
        told = run(*SIX, *parity, worst(), together(), needless())[-3:]
        self.assertEqual(told[0], [585, 0])
        # Two cheap questions come first; the others are asked as long as all answers are alike.
        asked_in = [95 * 729, 96 * 729, 97 * 243, 98 * 81, 99 * 27, 100 * 9]
        self.assertEqual(told[1], [sum(asked_in), 4])
        self.assertEqual(told[2], [0])
