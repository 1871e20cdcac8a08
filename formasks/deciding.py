"""The calls about how it's decided: next, reason, needless.

Each takes the form's sheet and what is told, and gives back the list of what it answers.
"""

from formasks.asking import LeastBurdens, can_be_left_out
from formasks.outcomes import is_decided, outcomes_left
from formasks.refusals import NOT_DECIDED


def tell_next(sheet, together):
    """The least burden and the first question, or 0."""
    outcomes = outcomes_left(sheet, sheet.given)
    if is_decided(outcomes):
        return [0]
    burdens = LeastBurdens(sheet.burdens, together == 1)
    return list(burdens.best_start(outcomes, tuple(sheet.given)))


def keeps(way, given, chosen):
    """Whether the way has the given answers of the chosen questions."""
    for question in chosen:
        if way[question] != given[question]:
            return False
    return True


def longer_choices(choices, questions):
    """The choices with one more of the questions each, which are in order, as the choices are and stay."""
    longer = []
    for chosen in choices:
        for question in questions:
            if len(chosen) == 0 or question > chosen[-1]:
                longer.append(chosen + [question])
    return longer


def tell_reason(sheet):
    """How many answers are a reason, and their questions."""
    outcomes = outcomes_left(sheet, [0] * len(sheet.given))
    questions = [question for question in range(len(sheet.given)) if sheet.given[question] > 0]
    choices = [[]]
    while len(choices) > 0:
        for chosen in choices:
            if is_decided([outcome for outcome in outcomes if keeps(outcome[0], sheet.given, chosen)]):
                return [len(chosen)] + chosen
        choices = longer_choices(choices, questions)
    # The last choice was all that's given.
    return [NOT_DECIDED]


def tell_needless(sheet):
    """How many questions can be left out, and these."""
    outcomes = outcomes_left(sheet, sheet.given)
    needless = [question for question in range(len(sheet.sizes)) if can_be_left_out(question, outcomes)]
    return [len(needless)] + needless
