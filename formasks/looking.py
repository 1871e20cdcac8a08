"""The calls that look at a form: left, state, results, check.

Each takes the form's sheet and what is told, and gives back the list of what it answers.
"""

from formasks.claims import claims_hold, is_asked
from formasks.outcomes import outcomes_left, result_of
from formasks.refusals import NO_SUCH_QUESTION, WRONG_NUMBERS
from formasks.ways import ways_left

HAS_NO_ANSWER = 1
IS_NOT_ASKED = 2
NEVER_HOLDS = 3


def tell_left(sheet):
    """How many ways are left, and the first of them."""
    ways = ways_left(sheet.sizes, sheet.conditions, sheet.nevers, sheet.given)
    return [len(ways)] + list(ways[0])


def tell_state(sheet, question):
    """In how many of the ways that are left the question is asked, and its answers in them."""
    if question >= len(sheet.sizes):
        return [NO_SUCH_QUESTION]
    ways = ways_left(sheet.sizes, sheet.conditions, sheet.nevers, sheet.given)
    entries = sorted(set([way[question] for way in ways]))
    had = [entry - 1 for entry in entries if entry > 0]
    if len(had) == 0:
        return [0]
    return [1 if entries[0] == 0 else 2] + had


def tell_results(sheet):
    """How many results are left, and these."""
    results = sorted(set([outcome[1] for outcome in outcomes_left(sheet, sheet.given)]))
    return [len(results)] + results


def is_filled(filled, sizes):
    """Whether this has of each question 0 or one of its answers and 1."""
    if len(filled) != len(sizes):
        return False
    for question in range(len(sizes)):
        if filled[question] > sizes[question]:
            return False
    return True


def wrong_things(sheet, filled):
    """What is wrong with the form filled in so, in order, as pairs."""
    wrong = []
    for question in range(len(filled)):
        should_answer = is_asked(sheet.conditions[question], filled)
        if should_answer and filled[question] == 0:
            wrong.append((HAS_NO_ANSWER, question))
        if not should_answer and filled[question] > 0:
            wrong.append((IS_NOT_ASKED, question))
    for number in range(len(sheet.nevers)):
        if claims_hold(sheet.nevers[number], filled):
            wrong.append((NEVER_HOLDS, number))
    return wrong


def check_filled(sheet, filled):
    """The result of the form filled in so, or what is wrong with it."""
    if not is_filled(filled, sheet.sizes):
        return [WRONG_NUMBERS]
    wrong = wrong_things(sheet, filled)
    if len(wrong) == 0:
        return [0, result_of(sheet, filled)]
    told = [len(wrong)]
    for thing in wrong:
        told.extend(thing)
    return told
