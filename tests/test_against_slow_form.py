"""Many made-up lists of calls, each answered by the program and by the slow form."""

import random
import unittest

from tests.helper import GREATEST, SlowForm, call, firsts


def made_claims(chance, most):
    """Claims that are mostly right, of the questions below most."""
    claims = []
    for turn in range(chance.choice((1, 1, 1, 2, 2, 3, 12))):
        claims += [chance.randrange(max(most, 1)), chance.choice((1, 2, 3, 3, 1, 2, 4, 5, 6, 7))]
    if chance.random() < 0.1:
        claims[chance.randrange(len(claims))] = chance.choice((0, 6, 7, 8, GREATEST))
    if chance.random() < 0.03:
        claims = []
    return claims


def made_call(chance, questions):
    number = chance.choice((1, 2, 2, 2, 3, 3, 4, 4, 5, 6, 6, 6, 7, 7))
    if chance.random() < 0.01:
        number = 0
    one = chance.randrange(questions + 1) if chance.random() < 0.2 else chance.randrange(max(questions, 1))
    if number == 1:
        return [1, chance.choice((2, 2, 3, 3, 3, 1, 4)), chance.choice((1, 100, 50, 0, 101))]
    if number == 2:
        return [2, one, *made_claims(chance, one)]
    if number == 3:
        return [3, *made_claims(chance, questions)]
    if number == 4:
        return [4, chance.choice((0, 5, 9, 9, 10)), *made_claims(chance, questions)]
    if number == 5:
        return [5, chance.choice((0, 9, 10, GREATEST))]
    if number == 6:
        return [6, one, chance.choice((0, 1, 1, 2, 2, 3))]
    return [7, one] if number == 7 else [0]


class AgainstSlowForm(unittest.TestCase):
    def test_made_up_calls(self):
        seen = {}
        for seed in range(120):
            chance = random.Random(seed)
            slow = SlowForm()
            calls = []
            told = []
            for size in [chance.choice((2, 3)) for turn in range(chance.randrange(6))]:
                calls.append([1, size, 1])
                told.append(slow.answer_call(*calls[-1]))
            while len(calls) < 100:
                calls.append(made_call(chance, len(slow.questions)))
                told.append(slow.answer_call(*calls[-1]))
                seen[(calls[-1][0], min(told[-1], 0))] = True
            with self.subTest(seed=seed):
                self.assertEqual(firsts(*[call(*one) for one in calls]), told)
        self.assertEqual(sorted(seen), [
            (0, 0), (1, -5), (1, -1), (1, 0), (2, -6), (2, -5), (2, -2), (2, -1), (2, 0), (3, -6), (3, -5), (3, -1),
            (3, 0), (4, -5), (4, -1), (4, 0), (5, -1), (5, 0), (6, -6), (6, -4), (6, -2), (6, -1), (6, 0), (7, -4),
            (7, -2), (7, 0)])
