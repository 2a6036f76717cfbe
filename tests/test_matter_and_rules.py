import unittest
from itertools import combinations_with_replacement

from helper import MATTER, MOST, all_rules, ask, begins, check_kept, check_refused, draw, rule, rules, slow_matter
from helper import slow_sure, some_rules, told_rules, urn, urns_of

NEITHER = [rule(0, 0, 1), rule(0, 1, 0), rule(1, 1, 0)]
WINNERS = [begins(3), rule(0, 1, 1), rule(1, 2, 2), rule(0, 2, 0)]


def urns_of_three_balls(k):
    return [[row.count(colour) for colour in range(k)] for row in combinations_with_replacement(range(k), 3)]


def is_sure(outcomes, many_balls):
    """Whether the last is sure of each of these urns."""
    return all(slow_sure(outcomes, balls)[0] == 1 for balls in many_balls)


class Matter(unittest.TestCase):
    def check(self, k, outcomes):
        told = ask(begins(k), *told_rules(outcomes), MATTER)[-1]
        self.assertEqual(told, slow_matter(outcomes, k), outcomes)
        return told

    def test_sure(self):
        self.assertEqual(ask(MATTER), [[1]])
        for k in (2, 3, 4):
            self.assertEqual(ask(begins(k), MATTER), [[0], [1]])
        self.assertEqual(ask(rule(0, 0, 0), rule(0, 1, 1), rule(1, 1, 0), MATTER)[-1], [1])
        for k in (2, 3, 4):
            sums = [rule(a, b, (a + b) % k) for a in range(k) for b in range(k)]
            self.assertEqual(ask(begins(k), *sums, MATTER)[-1], [1])

    def test_not_sure(self):
        self.assertEqual(ask(*NEITHER, MATTER)[-1], [0, 0, 0, 1])
        self.assertEqual(ask(*WINNERS, MATTER)[-1], [0, 0, 1, 2])

    def test_high_colours_alone(self):
        ahead = [begins(4), rule(2, 2, 3), rule(2, 3, 3), rule(3, 3, 2)]
        self.assertEqual(ask(*ahead, MATTER)[-1], [0, 2, 2, 3])

    def test_all_rules_of_two_and_three_colours(self):
        for k in (2, 3):
            told = [self.check(k, outcomes) for outcomes in all_rules(k)]
            self.assertIn([1], told)
            self.assertIn([0, 0, 0, 1], told)

    def test_rules_of_four_colours(self):
        for outcomes in some_rules(4):
            self.check(4, outcomes)
        # What comes of each two is turned one by one, so the first three are of many kinds.
        told = set()
        for a, b in ((2, 3), (3, 3), (1, 3), (2, 2), (1, 2), (0, 3)):
            for c in range(4):
                lower = {(one, other): one for one in range(4) for other in range(one, 4)}
                told.add(tuple(self.check(4, {**lower, (a, b): c})))
        self.assertGreaterEqual(len(told), 4)

    def test_just_if_the_last_is_sure(self):
        for k in (2, 3):
            for outcomes in all_rules(k):
                sure = is_sure(outcomes, urns_of_three_balls(k))
                self.assertEqual(ask(begins(k), *told_rules(outcomes), MATTER)[-1] == [1], sure, outcomes)

    def test_sure_of_more_balls_too(self):
        for outcomes in all_rules(2):
            sure = is_sure(outcomes, urns_of(2, 8))
            self.assertEqual(ask(*told_rules(outcomes), MATTER)[-1] == [1], sure, outcomes)

    def test_whatever_balls_there_are(self):
        for balls in ((0, 0), (1, 0), (1, 1), (8, 0), (4, 4)):
            self.assertEqual(ask(*NEITHER, urn(*balls), MATTER)[-1], [0, 0, 0, 1])
            self.assertEqual(ask(urn(*balls), MATTER)[-1], [1])

    def test_follows_the_rule(self):
        shown = ask(MATTER, *NEITHER, MATTER, rule(0, 0, 0), MATTER, begins(2), MATTER)
        self.assertEqual([shown[at] for at in (0, 4, 6, 8)], [[1], [0, 0, 0, 1], [1], [1]])

    def test_urn_and_rule_are_as_they_were(self):
        self.assertEqual(check_kept(self, 2, NEITHER + [urn(2, 3)], MATTER), [0, 0, 0, 1])
        self.assertEqual(check_kept(self, 3, WINNERS + [urn(2, 1, 2), draw(0, 1)], MATTER), [0, 0, 1, 2])
        self.assertEqual(check_kept(self, 4, [begins(4)], MATTER), [1])


class Rules(unittest.TestCase):
    def test_two_and_three(self):
        self.assertEqual(ask(rules(2), rules(3)), [[8, 6], [729, 63]])

    def test_counted_by_the_last_balls(self):
        for k in (2, 3):
            sure = [outcomes for outcomes in all_rules(k) if is_sure(outcomes, urns_of_three_balls(k))]
            self.assertEqual(ask(rules(k)), [[len(all_rules(k)), len(sure)]])
            # A rule that's sure of three balls is sure of more.
            for outcomes in sure:
                self.assertTrue(is_sure(outcomes, [(2, 3, 1)[:k], (3, 1, 3)[:k]]), outcomes)

    def test_whatever_the_urn_is(self):
        for ahead in ([], NEITHER, NEITHER + [urn(4, 4)], WINNERS, WINNERS + [urn(1, 1, 1)], [begins(4)]):
            shown = ask(*ahead, rules(2), rules(3))[len(ahead):]
            self.assertEqual(shown, [[8, 6], [729, 63]])

    def test_refused(self):
        for k in (0, 1, 4, 5, MOST):
            check_refused(self, 2, [], rules(k), -1)
            check_refused(self, 2, NEITHER + [urn(2, 3)], rules(k), -1)
            check_refused(self, 3, WINNERS + [urn(1, 2, 1)], rules(k), -1)
            check_refused(self, 4, [begins(4), rule(3, 3, 0), urn(1, 2, 1, 3)], rules(k), -1)

    def test_urn_and_rule_are_as_they_were(self):
        for k, told in ((2, [8, 6]), (3, [729, 63])):
            self.assertEqual(check_kept(self, 2, NEITHER + [urn(2, 3)], rules(k)), told)
            self.assertEqual(check_kept(self, 3, WINNERS + [urn(1, 2, 1)], rules(k)), told)
            self.assertEqual(check_kept(self, 4, [begins(4), rule(3, 3, 0), urn(1, 2, 1, 3)], rules(k)), told)


if __name__ == "__main__":
    unittest.main()
