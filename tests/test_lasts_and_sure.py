import unittest

from helper import LASTS, SURE, all_rules, ask, begins, check_refused, check_urns, draw, pairs_of, rule, slow_lasts
from helper import slow_sure, some_rules, told_rules, urn, urns_of


class LastsAndSure(unittest.TestCase):
    def check(self, k, outcomes, many_balls):
        check_urns(self, k, outcomes, many_balls, LASTS, slow_lasts)
        check_urns(self, k, outcomes, many_balls, SURE, slow_sure)

    def test_no_ball(self):
        for call in (LASTS, SURE):
            check_refused(self, 2, [], call, -9)
            check_refused(self, 2, [rule(0, 1, 1), urn(2, 2), urn(0, 0)], call, -9)
            check_refused(self, 3, [begins(3), rule(0, 1, 2)], call, -9)
            check_refused(self, 4, [urn(1, 1), begins(4)], call, -9)

    def test_one_ball(self):
        for k in (2, 3, 4):
            for colour in range(k):
                balls = [1 if at == colour else 0 for at in range(k)]
                # No draw is made, so what comes of two doesn't tell.
                shown = ask(begins(k), rule(colour, colour, (colour + 1) % k), urn(*balls), LASTS, SURE)
                self.assertEqual(shown[3:], [[1, colour], [1, colour]])

    def test_sure_by_the_lower_one(self):
        self.assertEqual(ask(urn(1, 7), LASTS, SURE), [[8], [1, 0], [1, 0]])
        self.assertEqual(ask(begins(4), urn(0, 0, 3, 5), LASTS, SURE)[2:], [[1, 2], [1, 2]])

    def test_sure_by_the_number_of_a_colour(self):
        odd_and_even = [rule(0, 0, 0), rule(0, 1, 1), rule(1, 1, 0)]
        for ones in range(9):
            shown = ask(*odd_and_even, urn(8 - ones, ones), LASTS, SURE)
            self.assertEqual(shown[4:], [[1, ones % 2], [1, ones % 2]])

    def test_not_sure(self):
        winners = [begins(3), rule(0, 1, 1), rule(1, 2, 2), rule(0, 2, 0)]
        self.assertEqual(ask(*winners, urn(1, 1, 1), LASTS, SURE)[5:], [[3, 0, 1, 2], [0]])
        self.assertEqual(ask(*winners, urn(1, 1, 0), LASTS, SURE)[5:], [[1, 1], [1, 1]])

    def test_two_of_two(self):
        turned = [rule(0, 0, 1), rule(0, 1, 0), rule(1, 1, 0)]
        self.assertEqual(ask(*turned, urn(3, 0), LASTS, SURE)[4:], [[1, 0], [1, 0]])
        self.assertEqual(ask(*turned, urn(2, 1), LASTS, SURE)[4:], [[2, 0, 1], [0]])

    def test_four_of_four(self):
        outcomes = {(a, b): (a + 2 * b + 1) % 4 for a, b in pairs_of(4)}
        self.assertEqual(slow_lasts(outcomes, (2, 2, 2, 2)), [4, 0, 1, 2, 3])
        shown = ask(begins(4), *told_rules(outcomes), urn(2, 2, 2, 2), LASTS, SURE)
        self.assertEqual(shown[-2:], [[4, 0, 1, 2, 3], [0]])

    def test_all_rules_of_two_colours(self):
        for outcomes in all_rules(2):
            self.check(2, outcomes, urns_of(2, 8))

    def test_all_rules_of_three_colours(self):
        for outcomes in all_rules(3):
            self.check(3, outcomes, [(1, 1, 1), (2, 0, 1), (0, 3, 2), (2, 2, 2)])

    def test_urns_of_three_and_four_colours(self):
        for k in (3, 4):
            for outcomes in some_rules(k):
                full = [balls for balls in urns_of(k, 8) if sum(balls) == 8]
                self.check(k, outcomes, urns_of(k, 3) + full[::7])

    def test_urn_and_rule_are_as_they_were(self):
        ahead = [begins(3), rule(0, 1, 2), rule(2, 2, 0), urn(2, 2, 2)]
        behind = [draw(0, 1), LASTS, draw(2, 2), rule(0, 1, 0), rule(2, 2, 0), rule(1, 1, 0)]
        plain = ask(*ahead, *behind)[len(ahead):]
        asked = ask(*ahead, LASTS, SURE, LASTS, SURE, *behind)[len(ahead):]
        self.assertEqual(asked[:2], asked[2:4])
        self.assertEqual(asked[4:], plain)


if __name__ == "__main__":
    unittest.main()
