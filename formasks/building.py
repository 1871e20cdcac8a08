"""The calls that tell what a form is: begins, question, asked, never, row, other.

Each takes the form's sheet and what is told, and gives back the list of what it answers.
What may still be refused is built beside the sheet, and put on it only when nothing is refused.
"""

from formasks.claims import are_claims, claims_of
from formasks.refusals import NO_ROOM, NO_SUCH_QUESTION, NONE_LEFT, WRONG_NUMBERS
from formasks.ways import ways_left

MOST_QUESTIONS = 6
MOST_CONDITIONS = 4
MOST_NEVERS = 10
MOST_ROWS = 12
GREATEST_BURDEN = 100
GREATEST_RESULT = 9


def begin(sheet):
    """Make the form as at a line's beginning."""
    sheet.start_anew()
    return [0]


def add_question(sheet, size, burden):
    """One question more, with so many answers."""
    if size < 2 or size > 3 or burden < 1 or burden > GREATEST_BURDEN:
        return [WRONG_NUMBERS]
    if len(sheet.sizes) == MOST_QUESTIONS:
        return [NO_ROOM]
    sheet.sizes.append(size)
    sheet.burdens.append(burden)
    sheet.conditions.append([])
    sheet.given.append(0)
    return [len(sheet.sizes) - 1]


def add_asked(sheet, question, numbers):
    """The question is asked, too, if the claims that the numbers tell hold."""
    if question >= len(sheet.sizes):
        return [NO_SUCH_QUESTION]
    # To these claims the questions from this one on are no questions.
    if not are_claims(numbers, sheet.sizes[:question]):
        return [WRONG_NUMBERS]
    if len(sheet.conditions[question]) == MOST_CONDITIONS:
        return [NO_ROOM]
    conditions = list(sheet.conditions)
    conditions[question] = conditions[question] + [claims_of(numbers)]
    if len(ways_left(sheet.sizes, conditions, sheet.nevers, sheet.given)) == 0:
        return [NONE_LEFT]
    sheet.conditions = conditions
    return [len(conditions[question])]


def add_never(sheet, numbers):
    """The claims that the numbers tell can't hold in a right way."""
    if not are_claims(numbers, sheet.sizes):
        return [WRONG_NUMBERS]
    if len(sheet.nevers) == MOST_NEVERS:
        return [NO_ROOM]
    nevers = sheet.nevers + [claims_of(numbers)]
    if len(ways_left(sheet.sizes, sheet.conditions, nevers, sheet.given)) == 0:
        return [NONE_LEFT]
    sheet.nevers = nevers
    return [len(nevers) - 1]


def add_row(sheet, result, numbers):
    """A row more: the result, if the claims that the numbers tell hold and those of no row before."""
    if result > GREATEST_RESULT or not are_claims(numbers, sheet.sizes):
        return [WRONG_NUMBERS]
    if len(sheet.rows) == MOST_ROWS:
        return [NO_ROOM]
    sheet.rows.append((result, claims_of(numbers)))
    return [len(sheet.rows) - 1]


def tell_other(sheet, result):
    """The result, if the claims of no row hold."""
    if result > GREATEST_RESULT:
        return [WRONG_NUMBERS]
    sheet.other = result
    return [0]
