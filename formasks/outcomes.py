"""Outcomes: what follows from the ways to fill in a form.

An outcome is a pair: a way that is left, and its result.
"""

from formasks.claims import claims_hold
from formasks.ways import ways_left


def result_of(sheet, way):
    """The result of the first row whose claims hold by this way, else the other one."""
    for row in sheet.rows:
        if claims_hold(row[1], way):
            return row[0]
    return sheet.other


def outcomes_left(sheet, given):
    """The outcomes, in order, if these answers were given: of each question 0 or its answer and 1."""
    ways = ways_left(sheet.sizes, sheet.conditions, sheet.nevers, given)
    return [(way, result_of(sheet, way)) for way in ways]


def is_decided(outcomes):
    """Whether all of the outcomes, one at least, have one result."""
    for outcome in outcomes:
        if outcome[1] != outcomes[0][1]:
            return False
    return True
