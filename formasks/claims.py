"""Claims: whether they are told rightly, how they are kept, and whether they hold.

A way to fill in a form is a tuple: of each question 0, if it isn't asked, else its answer and 1.
"""


def is_claim(question, chosen, sizes):
    """Whether this is a question with one or more of its answers; sizes tells how many answers each has."""
    if question >= len(sizes):
        return False
    return chosen > 0 and chosen < (1 << sizes[question])


def are_claims(numbers, sizes):
    """Whether the numbers tell claims, one at least, two numbers each."""
    if len(numbers) == 0:
        return False
    for at in range(0, len(numbers), 2):
        if not is_claim(numbers[at], numbers[at + 1], sizes):
            return False
    return True


def claims_of(numbers):
    """The claims as pairs of question and set, each question once."""
    # All claims must hold, so those of one question are one claim of what their sets share.
    # That may be the empty set: such claims are allowed, and never hold.
    chosen = {}
    for at in range(0, len(numbers), 2):
        question = numbers[at]
        chosen[question] = chosen.get(question, numbers[at + 1]) & numbers[at + 1]
    return list(chosen.items())


def claims_hold(claims, way):
    """Whether all the claims hold by a way that goes up to their questions at least."""
    for claim in claims:
        entry = way[claim[0]]
        if entry == 0 or (claim[1] >> (entry - 1)) & 1 == 0:
            return False
    return True


def one_holds(rows, way):
    """Whether of these rows of claims one holds."""
    for claims in rows:
        if claims_hold(claims, way):
            return True
    return False


def is_asked(conditions, way):
    """Whether a question with these rows of claims is asked by a way that goes up to it at least."""
    return len(conditions) == 0 or one_holds(conditions, way)
