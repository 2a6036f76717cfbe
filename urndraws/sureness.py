"""By which rules the last ball is always sure: by just those for which no three colours matter."""

from urndraws.draws import lower_outcomes


def do_matter(outcomes, a, b, c):
    """Whether it tells, of these three, which two are taken first."""
    return outcomes[c][outcomes[a][b]] != outcomes[a][outcomes[b][c]]


def first_that_matter(outcomes):
    """The first three colours that matter, by a, then b, then c; an empty list if none do."""
    colours = len(outcomes)
    for a in range(colours):
        for b in range(colours):
            for c in range(colours):
                if do_matter(outcomes, a, b, c):
                    return [a, b, c]
    return []


def count_rules(colours):
    """How many rules there are for so many colours."""
    many = 1
    for a in range(colours):
        for b in range(a, colours):
            many = many * colours
    return many


def numbered_rule(colours, number):
    """The rule with this number: its digits, in the base of the colours, are what comes of each two."""
    outcomes = lower_outcomes(colours)
    for a in range(colours):
        for b in range(a, colours):
            outcomes[a][b] = number % colours
            outcomes[b][a] = number % colours
            number = number // colours
    return outcomes


def count_sure_rules(colours):
    """How many of the rules for so many colours are sure."""
    many = 0
    for number in range(count_rules(colours)):
        if first_that_matter(numbered_rule(colours, number)) == []:
            many = many + 1
    return many
