"""Ways of asking: the least burden, the question to begin with, and what can be left out.

A way of asking is here a choice of the next question for what is known so far.
"""

from formasks.outcomes import is_decided


def parts_by(question, outcomes):
    """The outcomes, apart by the question's answers; none, if it isn't asked in all of them."""
    parts = {}
    for outcome in outcomes:
        entry = outcome[0][question]
        if entry == 0:
            return {}
        if entry not in parts:
            parts[entry] = []
        parts[entry].append(outcome)
    return parts


class LeastBurdens:
    """The least burdens, together or at the worst, from anything that may be known of a form."""

    def __init__(self, burdens, together):
        self.burdens = burdens
        self.together = together
        # The same may come to be known in many orders, and is worked out once.
        self.found = {}

    def burden_with(self, question, outcomes, parts, known):
        """The least burden of the ways of asking that begin with this question."""
        rests = []
        for entry in parts:
            rests.append(self.least_burden(parts[entry], known[:question] + (entry,) + known[question + 1:]))
        if self.together:
            return self.burdens[question] * len(outcomes) + sum(rests)
        return self.burdens[question] + max(rests)

    def best_start(self, outcomes, known):
        """The least burden, and the lowest question to begin with, where it isn't decided."""
        starts = []
        for question in range(len(self.burdens)):
            parts = parts_by(question, outcomes)
            # A question whose answer can't be other adds its burden, and nothing comes to be known.
            if len(parts) > 1:
                starts.append((self.burden_with(question, outcomes, parts, known), question))
        # There is always one: the first question in which two ways differ is asked in all.
        return min(starts)

    def least_burden(self, outcomes, known):
        """The least burden; known has of each question 0 or the entry by which these outcomes are left."""
        if known not in self.found:
            self.found[known] = 0 if is_decided(outcomes) else self.best_start(outcomes, known)[0]
        return self.found[known]


def parts_without(question, outcomes):
    """The outcomes, apart by another question's answers; none, if no other makes a difference."""
    for another in range(len(outcomes[0][0])):
        if another != question:
            parts = parts_by(another, outcomes)
            if len(parts) > 1:
                return parts
    return {}


def can_be_left_out(question, outcomes):
    """Whether it can be decided without ever asking this question."""
    waiting = [outcomes]
    while len(waiting) > 0:
        here = waiting.pop()
        if not is_decided(here):
            # To know more never hinders: what could be asked can be asked still. So any question will do.
            parts = parts_without(question, here)
            if len(parts) == 0:
                return False
            waiting.extend(list(parts.values()))
    return True
