"""What the tests share: calls as lists of numbers, answers taken apart, a slow form to compare with, drawn forms."""

import itertools

from formasks.form import answers

GREATEST = 4294967295
BURDENS = (1, 100, 50, 3, 3, 7, 20)


def call(number, *numbers):
    return [number, len(numbers), *numbers, 0]


def begins():
    return call(0)


def question(how_many=2, burden=1):
    return call(1, how_many, burden)


def asked(number, *claims):
    return call(2, number, *claims)


def never(*claims):
    return call(3, *claims)


def row(result, *claims):
    return call(4, result, *claims)


def other(result):
    return call(5, result)


def answer(number, given):
    return call(6, number, given)


def forget(number):
    return call(7, number)


def left():
    return call(8)


def state(number):
    return call(9, number)


def results():
    return call(10)


def check(*filled):
    return call(11, *filled)


def worst():
    """The call next, at the worst."""
    return call(12, 0)


def together():
    """The call next, together."""
    return call(12, 1)


def reason():
    return call(13)


def needless():
    return call(14)


def run(*calls):
    """The answers of each call, a list for each."""
    flat = answers([number for one in calls for number in one])
    apart = []
    at = 0
    while at < len(flat):
        apart.append(flat[at + 1:at + 1 + flat[at]])
        at += 1 + flat[at]
    return apart


def firsts(*calls):
    """The one number that each of the calls answers."""
    apart = run(*calls)
    if any(len(one) != 1 for one in apart) or len(apart) != len(calls):
        raise AssertionError(f"not one number for each call: {apart}")
    return [one[0] for one in apart]


def last(*calls):
    return firsts(*calls)[-1]


def end(*calls):
    """All that the last of the calls answers."""
    return run(*calls)[-1]


class SlowForm:
    """The document's words once more: all there is to fill in is tried, and what isn't right is thrown away."""

    def __init__(self):
        self.questions = []
        self.burdens = []
        self.told = {}
        self.nevers = []
        self.rows = []
        self.other_result = 0
        self.given = {}

    def holds(self, claims, filled):
        pairs = zip(claims[::2], claims[1::2])
        return all(filled[q] is not None and filled[q] in members(chosen) for q, chosen in pairs)

    def is_asked(self, number, filled):
        rows = self.told.get(number, [])
        return not rows or any(self.holds(claims, filled) for claims in rows)

    def is_right(self, filled):
        if any(self.is_asked(q, filled) != (filled[q] is not None) for q in range(len(filled))):
            return False
        return not any(self.holds(claims, filled) for claims in self.nevers)

    def ways(self, given):
        """All right ways by which these are asked and have these answers."""
        choices = [[given[q]] if q in given else [None, *range(size)] for q, size in enumerate(self.questions)]
        return [filled for filled in itertools.product(*choices) if self.is_right(filled)]

    def result(self, filled):
        return next((result for result, claims in self.rows if self.holds(claims, filled)), self.other_result)

    def decided(self, ways):
        return len({self.result(filled) for filled in ways}) == 1

    def can_be_asked(self, ways, before):
        """The questions that may be asked now, those among them whose answer can't be other."""
        return [q for q in range(len(self.questions))
                if q not in before and all(filled[q] is not None for filled in ways)]

    def least(self, ways, before, sums, found):
        """The least burden of a way of asking, when the answers to the questions before have left these ways."""
        if self.decided(ways):
            return 0
        key = (tuple(ways), frozenset(before))
        if key not in found:
            found[key] = min(self.begun(q, ways, before, sums, found) for q in self.can_be_asked(ways, before))
        return found[key]

    def begun(self, q, ways, before, sums, found):
        rests = [self.least(part, {*before, q}, sums, found) for part in parts(ways, q)]
        if sums:
            return self.burdens[q] * len(ways) + sum(rests)
        return self.burdens[q] + max(rests)

    def decided_without(self, q, ways, before, found):
        if self.decided(ways):
            return True
        key = (tuple(ways), frozenset(before))
        if key not in found:
            found[key] = any(
                all(self.decided_without(q, part, {*before, another}, found) for part in parts(ways, another))
                for another in self.can_be_asked(ways, before) if another != q)
        return found[key]

    def wrong_claims(self, claims, questions):
        if not claims:
            return True
        pairs = zip(claims[::2], claims[1::2])
        return any(q >= questions or not 1 <= chosen < 2 ** self.questions[q] for q, chosen in pairs)

    def answer_call(self, number, *numbers):
        """What the call answers, as a list."""
        told = [self.begins, self.question, self.asked, self.never, self.row, self.other, self.answer, self.forget,
                self.left, self.state, self.results, self.check, self.next, self.reason, self.needless,
                ][number](*numbers)
        return [told] if isinstance(told, int) else told

    def begins(self):
        self.__init__()
        return 0

    def question(self, how_many, burden):
        if how_many not in (2, 3) or burden not in range(1, 101):
            return -1
        if len(self.questions) >= 6:
            return -5
        self.questions.append(how_many)
        self.burdens.append(burden)
        return len(self.questions) - 1

    def asked(self, number, *claims):
        if number >= len(self.questions):
            return -2
        if self.wrong_claims(claims, number):
            return -1
        rows = self.told.setdefault(number, [])
        if len(rows) >= 4:
            return -5
        rows.append(claims)
        if not self.ways(self.given):
            rows.pop()
            return -6
        return len(rows)

    def never(self, *claims):
        if self.wrong_claims(claims, len(self.questions)):
            return -1
        if len(self.nevers) >= 10:
            return -5
        self.nevers.append(claims)
        if not self.ways(self.given):
            self.nevers.pop()
            return -6
        return len(self.nevers) - 1

    def row(self, result, *claims):
        if result > 9 or self.wrong_claims(claims, len(self.questions)):
            return -1
        if len(self.rows) >= 12:
            return -5
        self.rows.append((result, claims))
        return len(self.rows) - 1

    def other(self, result):
        if result > 9:
            return -1
        self.other_result = result
        return 0

    def answer(self, number, given):
        if number >= len(self.questions):
            return -2
        if given >= self.questions[number]:
            return -1
        if number in self.given:
            return -4
        ways = self.ways({**self.given, number: given})
        if not ways:
            return -6
        self.given[number] = given
        return len(ways)

    def forget(self, number):
        if number >= len(self.questions):
            return -2
        if number not in self.given:
            return -4
        self.given.pop(number)
        return len(self.ways(self.given))

    def left(self):
        ways = [[0 if had is None else had + 1 for had in filled] for filled in self.ways(self.given)]
        return [len(ways), *min(ways)]

    def state(self, number):
        if number >= len(self.questions):
            return -2
        had = [filled[number] for filled in self.ways(self.given)]
        kind = 2 if None not in had else 0 if set(had) == {None} else 1
        return [kind, *[a for a in range(3) if a in had]]

    def results(self):
        had = {self.result(filled) for filled in self.ways(self.given)}
        return [len(had), *sorted(had)]

    def check(self, *filled):
        if len(filled) != len(self.questions) or any(f > size for f, size in zip(filled, self.questions)):
            return -1
        had = [None if f == 0 else f - 1 for f in filled]
        wrong = []
        for q in range(len(had)):
            # The claims that are told for a question are of questions before it alone.
            if self.is_asked(q, had) and had[q] is None:
                wrong.append((1, q))
            elif not self.is_asked(q, had) and had[q] is not None:
                wrong.append((2, q))
        wrong += [(3, number) for number, claims in enumerate(self.nevers) if self.holds(claims, had)]
        return [len(wrong), *sum(wrong, ())] if wrong else [0, self.result(had)]

    def next(self, sums):
        ways = self.ways(self.given)
        if self.decided(ways):
            return 0
        found = {}
        begun = {q: self.begun(q, ways, self.given, sums, found) for q in self.can_be_asked(ways, self.given)}
        least = min(begun.values())
        return [least, min(q for q in begun if begun[q] == least and len(parts(ways, q)) > 1)]

    def reason(self):
        for size in range(len(self.given) + 1):
            for chosen in itertools.combinations(sorted(self.given), size):
                if self.decided(self.ways({q: self.given[q] for q in chosen})):
                    return [size, *chosen]
        return -7

    def needless(self):
        ways = self.ways(self.given)
        out = [q for q in range(len(self.questions)) if self.decided_without(q, ways, self.given, {})]
        return [len(out), *out]


def parts(ways, q):
    """The ways apart by the question's answers."""
    return [part for part in ([filled for filled in ways if filled[q] == a] for a in range(3)) if part]


def members(chosen):
    return [a for a in range(chosen.bit_length()) if chosen // 2 ** a % 2 == 1]


def right_claims(chance, sizes, how_many):
    """Claims of so many of these questions, each of some, but not all, of its answers."""
    claims = []
    for q in chance.sample(range(len(sizes)), min(how_many, len(sizes))):
        claims += [q, chance.randrange(1, 2 ** sizes[q] - 1)]
    return claims


def rich_form(chance, sizes):
    """Calls that make a form of which little is decided beforehand."""
    calls = [[1, size, chance.choice(BURDENS)] for size in sizes]
    for q in range(1, len(sizes)):
        if chance.random() < 0.4:
            calls += [[2, q, *right_claims(chance, sizes[:q], chance.randrange(1, 3))]
                      for turn in range(chance.randrange(1, 5))]
    calls += [[3, *right_claims(chance, sizes, chance.randrange(2, 4))]
              for turn in range(chance.choice((0, 1, 2, 4, 10)))]
    calls += [[4, chance.randrange(4), *right_claims(chance, sizes, chance.randrange(1, 4))]
              for turn in range(chance.randrange(1, 13))]
    return [*calls, [5, chance.randrange(10)]]
