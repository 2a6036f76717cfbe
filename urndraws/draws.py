"""Draws, and the urns and last balls they lead to.

An urn is here so many balls of each colour, as a list or a tuple.
A rule is here a list of rows: outcomes[a][b] is what comes of a and b.
"""


def lower_outcomes(colours):
    """The rule by which of each two colours the lower one comes."""
    outcomes = []
    for a in range(colours):
        outcomes.append([min(a, b) for b in range(colours)])
    return outcomes


def ways_to_draw(balls, a, b):
    """How many two balls, balls of one colour told apart, are of a and b."""
    if a == b:
        return balls[a] * (balls[a] - 1) // 2
    return balls[a] * balls[b]


def drawn(outcomes, balls, a, b):
    """The urn after a draw of a and b, as a new list."""
    after = list(balls)
    after[a] = after[a] - 1
    after[b] = after[b] - 1
    came = outcomes[a][b]
    after[came] = after[came] + 1
    return after


def add_draws(outcomes, balls, ways, found):
    """Add to found the urns one draw can make of this one, to which there are so many ways."""
    for a in range(len(balls)):
        # The order of the two doesn't matter, so b begins at a.
        for b in range(a, len(balls)):
            choices = ways_to_draw(balls, a, b)
            if choices > 0:
                after = tuple(drawn(outcomes, balls, a, b))
                found[after] = found.get(after, 0) + ways * choices


def after_one_draw(outcomes, urns):
    """The urns that one draw can make of any of these; both are dicts of the ways to each urn."""
    found = {}
    for balls in urns:
        add_draws(outcomes, balls, urns[balls], found)
    return found


def after_draws(outcomes, balls, draws):
    """A dict of the ways to each urn that so many draws can make of this one.

    All these ways are as likely as one another if balls are taken blindly:
    how many two balls there are to take hangs on the number of balls alone.
    """
    urns = {tuple(balls): 1}
    for made in range(draws):
        urns = after_one_draw(outcomes, urns)
    return urns


def last_colours(outcomes, balls):
    """The colours that the last ball can have, rising; there must be a ball."""
    urns = after_draws(outcomes, balls, sum(balls) - 1)
    return sorted([last.index(1) for last in urns])


def count_urns(outcomes, balls):
    """How many urns can come by draws, this one too."""
    urns = {tuple(balls): 1}
    many = 1
    # Each draw leaves one ball fewer, so no urn comes in two rounds.
    for made in range(sum(balls) - 1):
        urns = after_one_draw(outcomes, urns)
        many = many + len(urns)
    return many
