"""What the tests share: calls as lists of numbers, answers taken apart, and a slow form to compare with."""

import itertools

from formasks.form import answers

GREATEST = 4294967295


def call(number, *numbers):
    return [number, len(numbers), *numbers, 0]


def begins():
    return call(0)


def question(how_many=2, burden=1):
    return call(1, how_many, burden)


def asked(number, *claims):
    return call(2, number, *claims)


def never(*claims):
    return call(3, *claims)


def row(result, *claims):
    return call(4, result, *claims)


def other(result):
    return call(5, result)


def answer(number, given):
    return call(6, number, given)


def forget(number):
    return call(7, number)


def run(*calls):
    """The answers of each call, a list for each."""
    flat = answers([number for one in calls for number in one])
    apart = []
    at = 0
    while at < len(flat):
        apart.append(flat[at + 1:at + 1 + flat[at]])
        at += 1 + flat[at]
    return apart


def firsts(*calls):
    """The one number that each of the calls answers."""
    apart = run(*calls)
    if any(len(one) != 1 for one in apart) or len(apart) != len(calls):
        raise AssertionError(f"not one number for each call: {apart}")
    return [one[0] for one in apart]


def last(*calls):
    return firsts(*calls)[-1]


class SlowForm:
    """The document's words once more: all there is to fill in is tried, and what isn't right is thrown away."""

    def __init__(self):
        self.questions = []
        self.told = {}
        self.nevers = []
        self.rows = []
        self.given = {}

    def holds(self, claims, filled):
        pairs = zip(claims[::2], claims[1::2])
        return all(filled[q] is not None and filled[q] in members(chosen) for q, chosen in pairs)

    def is_asked(self, number, filled):
        rows = self.told.get(number, [])
        return not rows or any(self.holds(claims, filled) for claims in rows)

    def is_left(self, filled):
        if any(self.is_asked(q, filled) != (filled[q] is not None) for q in range(len(filled))):
            return False
        if any(self.holds(claims, filled) for claims in self.nevers):
            return False
        return all(filled[q] == given for q, given in self.given.items())

    def left(self):
        choices = [[None, *range(size)] for size in self.questions]
        return [filled for filled in itertools.product(*choices) if self.is_left(filled)]

    def wrong_claims(self, claims, questions):
        if not claims:
            return True
        pairs = zip(claims[::2], claims[1::2])
        return any(q >= questions or not 1 <= chosen < 2 ** self.questions[q] for q, chosen in pairs)

    def answer_call(self, number, *numbers):
        return [self.begins, self.question, self.asked, self.never,
                self.row, self.other, self.answer, self.forget][number](*numbers)

    def begins(self):
        self.__init__()
        return 0

    def question(self, how_many, burden):
        if how_many not in (2, 3) or burden not in range(1, 101):
            return -1
        if len(self.questions) >= 6:
            return -5
        self.questions.append(how_many)
        return len(self.questions) - 1

    def asked(self, number, *claims):
        if number >= len(self.questions):
            return -2
        if self.wrong_claims(claims, number):
            return -1
        rows = self.told.setdefault(number, [])
        if len(rows) >= 4:
            return -5
        rows.append(claims)
        if not self.left():
            rows.pop()
            return -6
        return len(rows)

    def never(self, *claims):
        if self.wrong_claims(claims, len(self.questions)):
            return -1
        if len(self.nevers) >= 10:
            return -5
        self.nevers.append(claims)
        if not self.left():
            self.nevers.pop()
            return -6
        return len(self.nevers) - 1

    def row(self, result, *claims):
        if result > 9 or self.wrong_claims(claims, len(self.questions)):
            return -1
        if len(self.rows) >= 12:
            return -5
        self.rows.append(claims)
        return len(self.rows) - 1

    def other(self, result):
        return -1 if result > 9 else 0

    def answer(self, number, given):
        if number >= len(self.questions):
            return -2
        if given >= self.questions[number]:
            return -1
        if number in self.given:
            return -4
        self.given[number] = given
        if not self.left():
            self.given.pop(number)
            return -6
        return len(self.left())

    def forget(self, number):
        if number >= len(self.questions):
            return -2
        if number not in self.given:
            return -4
        self.given.pop(number)
        return len(self.left())


def members(chosen):
    return [a for a in range(chosen.bit_length()) if chosen // 2 ** a % 2 == 1]
