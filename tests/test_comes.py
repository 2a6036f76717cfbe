import unittest

from helper import COMES, all_rules, ask, begins, check_kept, check_urns, draw, pairs_of, rule, slow_comes, some_rules
from helper import urn, urns_of


class Comes(unittest.TestCase):
    def check(self, k, outcomes, many_balls):
        check_urns(self, k, outcomes, many_balls, COMES, slow_comes)

    def test_no_ball(self):
        self.assertEqual(ask(COMES), [[1]])
        self.assertEqual(ask(rule(0, 0, 1), urn(3, 1), urn(0, 0), COMES)[-1], [1])
        for k in (2, 3, 4):
            self.assertEqual(ask(begins(k), COMES), [[0], [1]])

    def test_one_ball(self):
        for k in (2, 3, 4):
            for colour in range(k):
                balls = [1 if at == colour else 0 for at in range(k)]
                shown = ask(begins(k), rule(colour, colour, (colour + 1) % k), urn(*balls), COMES)
                self.assertEqual(shown[3:], [[1]])

    def test_two_balls(self):
        for balls in ((2, 0), (1, 1), (0, 2)):
            self.assertEqual(ask(urn(*balls), COMES, rule(1, 1, 0), COMES)[1::2], [[2], [2]])

    def test_one_colour(self):
        # Nothing but this colour comes of it, so there's one urn for each number of balls.
        self.assertEqual(ask(urn(8, 0), COMES, urn(0, 5), COMES), [[8], [8], [5], [5]])

    def test_several_ways_count_once(self):
        # 2 1; then 1 1 and 2 0; of each of them 1 0.
        self.assertEqual(ask(urn(2, 1), COMES), [[3], [4]])
        # 1 1 1; then 1 0 1, 0 1 1 and 1 1 0; then each of the three alone.
        winners = [begins(3), rule(0, 1, 1), rule(1, 2, 2), rule(0, 2, 0)]
        self.assertEqual(ask(*winners, urn(1, 1, 1), COMES)[-1], [7])

    def test_from_where_draws_have_led(self):
        self.assertEqual(ask(urn(2, 1), COMES, draw(0, 0), COMES, draw(0, 1), COMES)[1::2], [[4], [2], [1]])

    def test_rule_tells(self):
        # 1 2, 1 1 and 1 0; then 2 0 too, as a 0 comes of two 1.
        self.assertEqual(ask(urn(1, 2), COMES, rule(1, 1, 0), COMES), [[3], [3], [1], [4]])

    def test_all_rules_of_two_colours(self):
        for outcomes in all_rules(2):
            self.check(2, outcomes, urns_of(2, 8))

    def test_all_rules_of_three_colours(self):
        for outcomes in all_rules(3):
            self.check(3, outcomes, [(1, 1, 1), (2, 0, 1), (2, 2, 1)])

    def test_urns_of_three_and_four_colours(self):
        for k in (3, 4):
            full = [balls for balls in urns_of(k, 8) if sum(balls) == 8]
            for outcomes in some_rules(k):
                self.check(k, outcomes, urns_of(k, 3) + full[::9])

    def test_most_urns(self):
        outcomes = {(a, b): (a + 2 * b + 1) % 4 for a, b in pairs_of(4)}
        self.check(4, outcomes, [(2, 2, 2, 2), (8, 0, 0, 0), (0, 0, 1, 7)])

    def test_urn_and_rule_are_as_they_were(self):
        self.assertEqual(check_kept(self, 2, [], COMES), [1])
        self.assertEqual(check_kept(self, 2, [rule(1, 1, 0), urn(1, 2)], COMES), [4])
        self.assertEqual(check_kept(self, 4, [begins(4), rule(0, 3, 2), urn(1, 0, 0, 1)], COMES), [2])
        first, second = ask(urn(3, 4), COMES, COMES)[1:]
        self.assertEqual(first, second)


if __name__ == "__main__":
    unittest.main()
