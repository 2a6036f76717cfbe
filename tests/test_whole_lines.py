"""Lines of all eleven calls, against an urn that is gone through ball by ball."""

import unittest
from random import Random

from helper import CHANCES, COMES, LASTS, MATTER, MOST, SURE, all_rules, ask, average, begins, draw, pairs_of, rule
from helper import rules, slow_average, slow_chances, slow_comes, slow_lasts, slow_matter, slow_sure, urn
from urndraws.urns import answers

SURE_RULES = {k: sum(slow_matter(outcomes, k) == [1] for outcomes in all_rules(k)) for k in (2, 3)}


class SlowUrn:
    """What each call answers, by the slow ways of the helper."""

    def __init__(self):
        self.answer([0, 2])

    def answer(self, call):
        told = (self.begins, self.rule, self.urn, self.draw, self.lasts, self.sure, self.comes, self.chances,
                self.average, self.matter, self.rules)[call[0]]
        return told(call[2:]) if call[0] == 2 else told(*call[1:])

    def begins(self, k):
        if k not in (2, 3, 4):
            return [-1]
        self.k = k
        self.outcomes = {pair: pair[0] for pair in pairs_of(k)}
        self.balls = [0] * k
        return [0]

    def rule(self, a, b, c):
        if max(a, b, c) >= self.k:
            return [-1]
        pair = (min(a, b), max(a, b))
        before = self.outcomes[pair]
        self.outcomes[pair] = c
        return [before]

    def urn(self, balls):
        if len(balls) != self.k or sum(balls) > 8:
            return [-1]
        self.balls = balls
        return [sum(balls)]

    def draw(self, a, b):
        if max(a, b) >= self.k:
            return [-1]
        row = [colour for colour in range(self.k) for ball in range(self.balls[colour])]
        for ball in (a, b):
            if ball not in row:
                return [-2]
            row.remove(ball)
        came = self.outcomes[min(a, b), max(a, b)]
        self.balls = [(row + [came]).count(colour) for colour in range(self.k)]
        return [came] + self.balls

    def lasts(self):
        return slow_lasts(self.outcomes, self.balls) if any(self.balls) else [-9]

    def sure(self):
        return slow_sure(self.outcomes, self.balls) if any(self.balls) else [-9]

    def comes(self):
        return slow_comes(self.outcomes, self.balls)

    def chances(self):
        return slow_chances(self.outcomes, self.balls) if any(self.balls) else [-9]

    def average(self, m, colour):
        if colour >= self.k:
            return [-1]
        if not 1 <= m <= sum(self.balls):
            return [-2]
        return [0] + slow_average(self.outcomes, self.balls, m, colour)

    def matter(self):
        return slow_matter(self.outcomes, self.k)

    def rules(self, k):
        return [len(all_rules(k)), SURE_RULES[k]] if k in (2, 3) else [-1]


def some_call(chosen, k, searches, counts):
    """A call, mostly one that isn't refused where there are k colours."""
    colours = [chosen.choice([*range(k)] * 6 + [k, MOST]) for place in range(3)]
    if chosen.random() < 0.08:
        return begins(chosen.choice([2, 3, 4, 3, 4, 0, 1, 5, MOST]))
    if counts and chosen.random() < 0.2:
        return rules(chosen.choice([2, 3, 2, 3, 0, 1, 4, MOST]))
    if searches and chosen.random() < 0.5:
        m = chosen.choice([1, 2, 3, 4, 5, 0, 9])
        return chosen.choice([LASTS, SURE, COMES, CHANCES, average(m, colours[0])])
    kind = chosen.randrange(8)
    if kind == 0:
        return MATTER
    if kind < 3:
        return urn(*[chosen.choice([0, 1, 2, 3]) for place in range(chosen.choice([k, k, k, k, 0, 5]))])
    return rule(*colours) if kind < 6 else draw(*colours[:2])


def some_line(seed):
    """40 calls, ten of them searches and two of rules at most; all that a line may have."""
    chosen = Random(seed)
    k = 2
    calls = []
    while len(calls) < 40:
        searches = sum(4 <= call[0] <= 8 for call in calls) < 10
        counts = sum(call[0] == 10 for call in calls) < 2
        calls.append(some_call(chosen, k, searches, counts))
        if calls[-1][0] == 0 and calls[-1][1] in (2, 3, 4):
            k = calls[-1][1]
    return calls


class WholeLines(unittest.TestCase):
    def test_against_the_slow_urn(self):
        kinds = set()
        for seed in range(60):
            calls = some_line(seed)
            slow = SlowUrn()
            told = ask(*calls)
            self.assertEqual(told, [slow.answer(call) for call in calls], calls)
            kinds |= {(call[0], min(given[0], 0)) for call, given in zip(calls, told)}
        # Each call that is refused at times is seen both refused and not.
        refusals = {(0, -1), (1, -1), (2, -1), (3, -1), (3, -2), (4, -9), (5, -9), (7, -9), (8, -1), (8, -2), (10, -1)}
        self.assertEqual(kinds, refusals | {(call, 0) for call in range(11)})

    def test_twice_the_same_and_the_list_as_it_was(self):
        for seed in range(5):
            calls = [number for call in some_line(seed) for number in call]
            handed_in = list(calls)
            first = answers(handed_in)
            self.assertEqual(answers(handed_in), first)
            self.assertEqual(handed_in, calls)
            self.assertEqual({number.__class__ for number in first}, {int})


if __name__ == "__main__":
    unittest.main()
