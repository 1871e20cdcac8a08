"""The calls that give answers and take them back: answer, forget.

Each takes the form's sheet and what is told, and gives back the list of what it answers.
"""

from formasks.refusals import ALREADY_SO, NO_SUCH_QUESTION, NONE_LEFT, WRONG_NUMBERS
from formasks.ways import ways_left


def give_answer(sheet, question, answer):
    """The question's answer is given."""
    if question >= len(sheet.sizes):
        return [NO_SUCH_QUESTION]
    if answer >= sheet.sizes[question]:
        return [WRONG_NUMBERS]
    if sheet.given[question] > 0:
        return [ALREADY_SO]
    given = list(sheet.given)
    given[question] = answer + 1
    left = len(ways_left(sheet.sizes, sheet.conditions, sheet.nevers, given))
    if left == 0:
        return [NONE_LEFT]
    sheet.given = given
    return [left]


def forget_answer(sheet, question):
    """The question's answer isn't given any more."""
    if question >= len(sheet.sizes):
        return [NO_SUCH_QUESTION]
    if sheet.given[question] == 0:
        return [ALREADY_SO]
    sheet.given[question] = 0
    return [len(ways_left(sheet.sizes, sheet.conditions, sheet.nevers, sheet.given))]
