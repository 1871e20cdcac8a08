"""Small forms of which every single way of asking is written out, and the best picked among them."""

import itertools
import random
import unittest

from tests.helper import SlowForm, call, parts, rich_form, run


def ways_of_asking(form, ways, before):
    """Every way of asking: of each way to fill in the form, the questions that are asked, in order."""
    if form.decided(ways):
        return [{filled: () for filled in ways}]
    found = []
    for q in form.can_be_asked(ways, before):
        for chosen in itertools.product(*[ways_of_asking(form, part, {*before, q}) for part in parts(ways, q)]):
            found.append({filled: (q, *asked) for one in chosen for filled, asked in one.items()})
    return found


def best(form, ways, found, measure):
    """What next answers, where the measure makes one number of the burdens of all ways."""
    taken = [measure([sum(form.burdens[q] for q in asked) for asked in one.values()]) for one in found]
    firsts = {asked[0] for one, burden in zip(found, taken) if burden == min(taken) for asked in one.values() if asked}
    useful = [q for q in firsts if len(parts(ways, q)) > 1]
    return [min(taken), min(useful)] if useful else [0]


def never_asked(form, found):
    out = [q for q in range(len(form.questions))
           if any(all(q not in asked for asked in one.values()) for one in found)]
    return [len(out), *out]


class WaysOfAsking(unittest.TestCase):
    def test_all_ways_of_asking_of_small_forms(self):
        undecided = 0
        for seed in range(250):
            chance = random.Random(f"asking {seed}")
            sizes = chance.choice(([2, 2], [2, 3], [2, 2, 2], [3, 2, 2], [2, 3, 3], [3, 3, 3], [2, 2, 2, 2]))
            form = SlowForm()
            calls = rich_form(chance, sizes)
            if chance.random() < 0.3:
                calls.append([6, chance.randrange(len(sizes)), chance.randrange(2)])
            for one in calls:
                form.answer_call(*one)
            ways = form.ways(form.given)
            found = ways_of_asking(form, ways, form.given)
            undecided += not form.decided(ways)
            told = [best(form, ways, found, max), best(form, ways, found, sum), never_asked(form, found)]
            with self.subTest(seed=seed):
                calls += [[12, 0], [12, 1], [14]]
                self.assertEqual(run(*[call(*one) for one in calls])[-3:], told)
        self.assertGreater(undecided, 100)
