"""Many made-up lists of calls, each answered by the program and by the slow form."""

import random
import unittest

from tests.helper import BURDENS, GREATEST, SlowForm, call, rich_form, run

FIRST_KINDS = (1, 2, 2, 2, 3, 3, 4, 4, 5, 6, 6, 6, 7, 7, 8, 9, 9, 10, 11, 11, 11)
DECIDING_KINDS = (12, 12, 13, 14)


def made_claims(chance, most):
    """Claims that are mostly right, of the questions below most."""
    claims = []
    for turn in range(chance.choice((1, 1, 1, 2, 2, 3, 12))):
        claims += [chance.randrange(max(most, 1)), chance.choice((1, 2, 3, 3, 1, 2, 4, 5, 6, 7))]
    if chance.random() < 0.1:
        claims[chance.randrange(len(claims))] = chance.choice((0, 6, 7, 8, GREATEST))
    if chance.random() < 0.03:
        claims = []
    return claims


def made_filled(chance, slow):
    """Mostly a right way, or one that has become wrong in a place or two."""
    filled = [0 if had is None else had + 1 for had in chance.choice(slow.ways({}))]
    for turn in range(chance.randrange(3)):
        if filled:
            filled[chance.randrange(len(filled))] = chance.choice((0, 0, 1, 2, 2, 3))
    if chance.random() < 0.05:
        filled.append(chance.choice((0, 1)))
    if chance.random() < 0.05:
        filled = filled[1:]
    return filled


def made_telling(chance, slow, number, one):
    """A call of those that tell what the form is."""
    questions = len(slow.questions)
    if number == 0:
        return [0]
    if number == 1:
        return [1, chance.choice((2, 2, 3, 3, 3, 1, 4)), chance.choice((*BURDENS, 0, 101))]
    if number == 2:
        return [2, one, *made_claims(chance, one)]
    if number == 3:
        return [3, *made_claims(chance, questions)]
    if number == 4:
        return [4, chance.choice((0, 5, 9, 9, 10)), *made_claims(chance, questions)]
    return [5, chance.choice((0, 9, 10, GREATEST))]


def made_call(chance, slow, kinds):
    questions = len(slow.questions)
    number = chance.choice(kinds) if chance.random() > 0.01 else 0
    one = chance.randrange(questions + 1) if chance.random() < 0.2 else chance.randrange(max(questions, 1))
    if number < 6:
        return made_telling(chance, slow, number, one)
    if number == 6:
        return [6, one, chance.choice((0, 1, 1, 2, 2, 3))]
    if number in (7, 9):
        return [number, one]
    if number == 11:
        return [11, *made_filled(chance, slow)]
    return [12, chance.randrange(2)] if number == 12 else [number]


def made_line(chance, slow):
    """A hundred calls, and what the slow form answers to them; at most 12 of next, reason and needless."""
    sizes = [chance.choice((2, 3)) for turn in range(chance.randrange(5))]
    calls = rich_form(chance, sizes) if sizes and chance.random() < 0.6 else [[1, size, 1] for size in sizes]
    told = [slow.answer_call(*one) for one in calls]
    deciding = 0
    while len(calls) < 100:
        kinds = DECIDING_KINDS if deciding < 12 and chance.random() < 0.2 else FIRST_KINDS
        calls.append(made_call(chance, slow, kinds))
        told.append(slow.answer_call(*calls[-1]))
        deciding += calls[-1][0] >= 12
    return calls, told


def rich_line(chance, slow):
    """Calls that make a form, then look at it from all sides as answers are given and forgotten."""
    size = chance.choice((2, 3))
    sizes = [size] * chance.randrange(3, 9 - size) if chance.random() < 0.7 else [2, 3, 2, 2]
    calls = rich_form(chance, sizes)
    told = [slow.answer_call(*one) for one in calls]
    looks = [[8], [10], [12, 0], [12, 1], [13], [14], *[[9, q] for q in range(len(sizes))]]
    way = chance.choice(slow.ways({}))
    given = [[6, q, way[q]] for q in chance.sample(range(len(way)), len(way)) if way[q] is not None]
    for changes in ([], given[:chance.randrange(1, 3)], given):
        for one in [*changes, *looks]:
            calls.append(one)
            told.append(slow.answer_call(*one))
    more = [[7, chance.randrange(len(sizes))], [10], [11, *made_filled(chance, slow)]]
    return calls + more, told + [slow.answer_call(*one) for one in more]


class AgainstSlowForm(unittest.TestCase):
    def test_made_up_calls(self):
        seen = {}
        for seed in range(150):
            chance = random.Random(seed)
            calls, told = made_line(chance, SlowForm())
            for one, answered in zip(calls, told):
                seen[(one[0], min(answered[0], 0))] = True
            with self.subTest(seed=seed):
                self.assertEqual(run(*[call(*one) for one in calls]), told)
        self.assertEqual(sorted(seen), [
            (0, 0), (1, -5), (1, -1), (1, 0), (2, -6), (2, -5), (2, -2), (2, -1), (2, 0), (3, -6), (3, -5), (3, -1),
            (3, 0), (4, -5), (4, -1), (4, 0), (5, -1), (5, 0), (6, -6), (6, -4), (6, -2), (6, -1), (6, 0), (7, -4),
            (7, -2), (7, 0), (8, 0), (9, -2), (9, 0), (10, 0), (11, -1), (11, 0), (12, 0), (13, -7), (13, 0),
            (14, 0)])

    def test_rich_forms(self):
        for seed in range(100):
            chance = random.Random(f"rich {seed}")
            calls, told = rich_line(chance, SlowForm())
            with self.subTest(seed=seed):
                self.assertEqual(run(*[call(*one) for one in calls]), told)
