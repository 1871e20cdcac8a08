"""The interface: calls about one form, told in one list of whole numbers."""

from formasks.building import add_asked, add_never, add_question, add_row, begin, tell_other
from formasks.deciding import tell_needless, tell_next, tell_reason
from formasks.giving import forget_answer, give_answer
from formasks.looking import check_filled, tell_left, tell_results, tell_state
from formasks.sheet import Sheet


class NoSuchCall(ValueError):
    """A number that no call has."""


def answer_call(sheet, call, numbers):
    """What the call with this number answers to its numbers."""
    if call == 0:
        return begin(sheet)
    if call == 1:
        return add_question(sheet, numbers[0], numbers[1])
    if call == 2:
        return add_asked(sheet, numbers[0], numbers[1:])
    if call == 3:
        return add_never(sheet, numbers)
    if call == 4:
        return add_row(sheet, numbers[0], numbers[1:])
    if call == 5:
        return tell_other(sheet, numbers[0])
    if call == 6:
        return give_answer(sheet, numbers[0], numbers[1])
    if call == 7:
        return forget_answer(sheet, numbers[0])
    if call == 8:
        return tell_left(sheet)
    if call == 9:
        return tell_state(sheet, numbers[0])
    if call == 10:
        return tell_results(sheet)
    if call == 11:
        return check_filled(sheet, numbers)
    if call == 12:
        return tell_next(sheet, numbers[0])
    if call == 13:
        return tell_reason(sheet)
    if call == 14:
        return tell_needless(sheet)
    raise NoSuchCall("no such call")


def answers(calls):
    """What the calls answer: for each one how many numbers, then these."""
    sheet = Sheet()
    told = []
    at = 0
    while at < len(calls):
        behind = at + 2 + calls[at + 1]
        answered = answer_call(sheet, calls[at], calls[at + 2:behind])
        told.append(len(answered))
        told.extend(answered)
        # Behind a call's numbers stands how many lists it has, which is always 0.
        at = behind + 1
    return told
