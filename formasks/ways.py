"""The ways to fill in a form that are left."""

from formasks.claims import is_asked, one_holds


def next_entries(way, size, conditions, given):
    """What the question behind this way can have: 0, if it isn't asked, else an answer and 1."""
    if not is_asked(conditions, way):
        # A way by which a given question isn't asked is not left.
        return [0] if given == 0 else []
    if given > 0:
        return [given]
    return list(range(1, size + 1))


def ways_left(sizes, conditions, nevers, given):
    """All ways that are left, in order.

    Of each question, sizes has how many answers there are, conditions the rows of claims
    that are told for it, given 0 or the given answer and 1.
    """
    ways = [()]
    for question in range(len(sizes)):
        longer = []
        for way in ways:
            for entry in next_entries(way, sizes[question], conditions[question], given[question]):
                longer.append(way + (entry,))
        ways = longer
    return [way for way in ways if not one_holds(nevers, way)]
