"""What the tests share: calls by name, answers taken apart, and a slow way to them, ball by ball."""

from fractions import Fraction
from itertools import combinations, product
from math import comb

from urndraws.urns import answers

MOST = 4294967295


def begins(k):
    return [0, k]


def rule(a, b, c):
    return [1, a, b, c]


def urn(*balls):
    return [2, len(balls), *balls]


def draw(a, b):
    return [3, a, b]


LASTS = [4]
SURE = [5]
COMES = [6]
CHANCES = [7]


def average(m, colour):
    return [8, m, colour]


MATTER = [9]


def rules(k):
    return [10, k]


def check_line(calls):
    """No list is asked that the document rules out."""
    searches = [call for call in calls if 4 <= call[0] <= 8]
    counts = [call for call in calls if call[0] == 10]
    if not 1 <= len(calls) <= 40 or len(searches) > 10 or len(counts) > 2:
        raise AssertionError(f"{len(calls)} calls, {len(searches)} searches, {len(counts)} of rules")


def ask(*calls):
    """The answers to these calls, a list for each; the counts between them are checked."""
    check_line(calls)
    given = answers([number for call in calls for number in call])
    found = []
    place = 0
    while place < len(given):
        end = place + 1 + given[place]
        found.append(given[place + 1:end])
        if len(found[-1]) != given[place] or given[place] < 1:
            raise AssertionError(f"a count that isn't kept: {given}")
        place = end
    if len(found) != len(calls):
        raise AssertionError(f"{len(calls)} calls, {len(found)} answers")
    return found


def pairs_of(k):
    return [(a, b) for a in range(k) for b in range(a, k)]


def urns_of(k, most):
    """All urns of so many balls at most, but that with none."""
    return [balls for balls in product(range(most + 1), repeat=k) if 1 <= sum(balls) <= most]


def all_rules(k):
    return [dict(zip(pairs_of(k), comes)) for comes in product(range(k), repeat=len(pairs_of(k)))]


def some_rules(k):
    """A few rules, sure ones and others."""
    rules_found = [{(a, b): (a * b + step * (a + b) + step) % k for a, b in pairs_of(k)} for step in range(k)]
    rules_found.append({(a, b): max(a, b) for a, b in pairs_of(k)})
    rules_found.append({(a, b): (b + 1) % k if a == b else a for a, b in pairs_of(k)})
    return rules_found


def told_rules(outcomes):
    """The calls that set a rule, given as a dict of (a, b) with a <= b."""
    return [rule(a, b, c) for (a, b), c in outcomes.items()]


def slow_rows(outcomes, balls, left):
    """How likely is each row of balls when so many are left, found ball by ball, each two balls tried."""
    rows = {tuple(colour for colour, many in enumerate(balls) for ball in range(many)): Fraction(1)}
    for length in range(sum(balls), left, -1):
        after = {}
        for row, chance in rows.items():
            for one, other in combinations(range(length), 2):
                rest = [ball for at, ball in enumerate(row) if at not in (one, other)]
                # The rows are sorted, so the lower colour of two is the first.
                came = tuple(sorted(rest + [outcomes[row[one], row[other]]]))
                after[came] = after.get(came, 0) + chance / comb(length, 2)
        rows = after
    return rows


def slow_lasts(outcomes, balls):
    colours = sorted(row[0] for row in slow_rows(outcomes, balls, 1))
    return [len(colours)] + colours


def slow_sure(outcomes, balls):
    lasts = slow_lasts(outcomes, balls)
    return lasts if lasts[0] == 1 else [0]


def slow_comes(outcomes, balls):
    return [sum(len(slow_rows(outcomes, balls, left)) for left in range(1, sum(balls) + 1)) if any(balls) else 1]


def slow_average(outcomes, balls, left, colour):
    many = sum(chance * row.count(colour) for row, chance in slow_rows(outcomes, balls, left).items())
    return [Fraction(many).numerator, Fraction(many).denominator]


def slow_chances(outcomes, balls):
    return [0] + [number for colour in range(len(balls)) for number in slow_average(outcomes, balls, 1, colour)]


def slow_matter(outcomes, k):
    def comes_of(a, b):
        return outcomes[min(a, b), max(a, b)]

    threes = [three for three in product(range(k), repeat=3)
              if comes_of(three[2], comes_of(three[0], three[1])) != comes_of(three[0], comes_of(three[1], three[2]))]
    return [0, *min(threes)] if threes else [1]


def check_urns(test, k, outcomes, many_balls, call, slow):
    """The call answers for each urn what the slow way does; ten urns a line, as a line has so many searches."""
    ahead = [begins(k)] + told_rules(outcomes)
    for at in range(0, len(many_balls), 10):
        asked = many_balls[at:at + 10]
        calls = [told for balls in asked for told in (urn(*balls), call)]
        shown = ask(*ahead, *calls)[len(ahead) + 1::2]
        test.assertEqual(shown, [slow(outcomes, balls) for balls in asked], (outcomes, asked))


def probes(k):
    """Calls that together show the balls, the rule and the number of colours, where it is k."""
    # Draws show the balls, rule what came before, urn how many colours there are.
    draws = [draw(a, b) for a, b in pairs_of(k)]
    befores = [rule(a, b, 0) for a, b in pairs_of(k)]
    return [LASTS, SURE] + draws + befores + [urn(*[1] * k), urn(*[0] * (k + 1))]


def check_kept(test, k, ahead, call):
    """All is as it was after the call behind these calls ahead (k colours); what the call answers."""
    behind = probes(k)
    with_it = ask(*ahead, call, *behind)
    without_it = ask(*ahead, *behind)
    test.assertEqual(with_it[len(ahead) + 1:], without_it[len(ahead):], (ahead, call))
    return with_it[len(ahead)]


def check_refused(test, k, ahead, refused, refusal):
    """The call is refused so behind these calls ahead, and all is as it was (k colours)."""
    test.assertEqual(check_kept(test, k, ahead, refused), [refusal], (ahead, refused))
