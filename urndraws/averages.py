"""Averages over urns that come blindly, as fractions: above and below, in lowest terms."""


def common_divisor(one, other):
    """The greatest number that divides both."""
    while other > 0:
        rest = one % other
        one = other
        other = rest
    return one


def lowest_terms(above, below):
    divisor = common_divisor(above, below)
    return [above // divisor, below // divisor]


def average_of(urns, colour):
    """How many balls of the colour there are on average; urns is a dict of the ways to each urn."""
    balls_of_all_ways = sum([balls[colour] * urns[balls] for balls in urns])
    return lowest_terms(balls_of_all_ways, sum(urns.values()))
