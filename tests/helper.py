"""What the tests share: calls by name, answers taken apart, and a slow way to the last balls."""

from functools import lru_cache
from itertools import combinations

from urndraws.urns import answers

MOST = 4294967295


def begins(k):
    return [0, k]


def rule(a, b, c):
    return [1, a, b, c]


def urn(*balls):
    return [2, len(balls), *balls]


def draw(a, b):
    return [3, a, b]


LASTS = [4]
SURE = [5]


def ask(*calls):
    """The answers to these calls, a list for each; the counts between them are checked."""
    given = answers([number for call in calls for number in call])
    found = []
    place = 0
    while place < len(given):
        end = place + 1 + given[place]
        found.append(given[place + 1:end])
        if len(found[-1]) != given[place] or given[place] < 1:
            raise AssertionError(f"a count that isn't kept: {given}")
        place = end
    if len(found) != len(calls):
        raise AssertionError(f"{len(calls)} calls, {len(found)} answers")
    return found


def told_rules(outcomes):
    """The calls that set a rule, given as a dict of (a, b) with a <= b."""
    return [rule(a, b, c) for (a, b), c in outcomes.items()]


def slow_lasts(outcomes, balls):
    """The colours of the last ball, found ball by ball: each two balls are tried at each draw."""
    @lru_cache(maxsize=None)
    def lasts_of(row):
        if len(row) == 1:
            return frozenset(row)
        found = frozenset()
        for one, other in combinations(range(len(row)), 2):
            rest = [ball for at, ball in enumerate(row) if at not in (one, other)]
            pair = (min(row[one], row[other]), max(row[one], row[other]))
            found |= lasts_of(tuple(sorted(rest + [outcomes[pair]])))
        return found

    return sorted(lasts_of(tuple(colour for colour, many in enumerate(balls) for ball in range(many))))


def probes(k):
    """Calls that together show the balls, the rule and the number of colours, where it is k."""
    pairs = [(a, b) for a in range(k) for b in range(a, k)]
    # Draws show the balls, rule what came before, urn how many colours there are.
    draws = [draw(a, b) for a, b in pairs]
    rules = [rule(a, b, 0) for a, b in pairs]
    return [LASTS, SURE] + draws + rules + [urn(*[1] * k), urn(*[0] * (k + 1))]


def check_refused(test, k, ahead, refused, refusal):
    """The call is refused so after the calls ahead of it, and all is as it was (k colours)."""
    behind = probes(k)
    with_it = ask(*ahead, refused, *behind)
    without_it = ask(*ahead, *behind)
    test.assertEqual(with_it[len(ahead)], [refusal])
    test.assertEqual(with_it[len(ahead) + 1:], without_it[len(ahead):])
