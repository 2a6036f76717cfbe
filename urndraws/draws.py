"""Draws, and the last balls they lead to.

An urn is here so many balls of each colour, as a list or a tuple.
A rule is here a list of rows: outcomes[a][b] is what comes of a and b.
"""


def lower_outcomes(colours):
    """The rule by which of each two colours the lower one comes."""
    outcomes = []
    for a in range(colours):
        outcomes.append([min(a, b) for b in range(colours)])
    return outcomes


def can_draw(balls, a, b):
    """Whether a ball of a and another of b are there."""
    if a == b:
        return balls[a] >= 2
    return balls[a] >= 1 and balls[b] >= 1


def drawn(outcomes, balls, a, b):
    """The urn after a draw of a and b, as a new list."""
    after = list(balls)
    after[a] = after[a] - 1
    after[b] = after[b] - 1
    came = outcomes[a][b]
    after[came] = after[came] + 1
    return after


def urns_after_one_draw(outcomes, urns):
    """The urns that one draw can make of any of these, each once."""
    found = {}
    for balls in urns:
        for a in range(len(balls)):
            # The order of the two doesn't matter, so b begins at a.
            for b in range(a, len(balls)):
                if can_draw(balls, a, b):
                    found[tuple(drawn(outcomes, balls, a, b))] = True
    return list(found)


def last_colours(outcomes, balls):
    """The colours that the last ball can have, rising; there must be a ball."""
    urns = [tuple(balls)]
    # Each draw leaves one ball fewer, so all urns of a round have as many balls.
    for taken in range(sum(balls) - 1):
        urns = urns_after_one_draw(outcomes, urns)
    return sorted([last.index(1) for last in urns])
