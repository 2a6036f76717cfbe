import unittest
from fractions import Fraction

from helper import CHANCES, MOST, all_rules, ask, average, begins, check_kept, check_refused, check_urns, draw, rule
from helper import slow_average, slow_chances, some_rules, told_rules, urn, urns_of

TURNED = [rule(0, 0, 1), rule(0, 1, 0), rule(1, 1, 0)]
WINNERS = [begins(3), rule(0, 1, 1), rule(1, 2, 2), rule(0, 2, 0)]


def fractions_of(told):
    """The fractions behind the 0 that is answered first."""
    return [Fraction(told[at], told[at + 1]) for at in range(1, len(told), 2)]


class Chances(unittest.TestCase):
    def check(self, k, outcomes, many_balls):
        check_urns(self, k, outcomes, many_balls, CHANCES, slow_chances)

    def test_no_ball(self):
        check_refused(self, 2, [], CHANCES, -9)
        check_refused(self, 2, TURNED + [urn(2, 2), urn(0, 0)], CHANCES, -9)
        check_refused(self, 3, WINNERS, CHANCES, -9)
        check_refused(self, 4, [urn(1, 1), begins(4)], CHANCES, -9)

    def test_one_ball(self):
        self.assertEqual(ask(*TURNED, urn(1, 0), CHANCES, urn(0, 1), CHANCES)[4::2], [[0, 1, 1, 0, 1], [0, 0, 1, 1, 1]])
        self.assertEqual(ask(*WINNERS, urn(0, 0, 1), CHANCES)[-1], [0, 0, 1, 0, 1, 1, 1])
        self.assertEqual(ask(begins(4), urn(0, 1, 0, 0), CHANCES)[-1], [0, 0, 1, 1, 1, 0, 1, 0, 1])

    def test_sure(self):
        self.assertEqual(ask(urn(1, 7), CHANCES)[-1], [0, 1, 1, 0, 1])
        self.assertEqual(ask(begins(4), urn(0, 0, 3, 5), CHANCES)[-1], [0, 0, 1, 0, 1, 1, 1, 0, 1])

    def test_balls_of_one_colour_are_told_apart(self):
        # Two of three ways take a 0 and the 1: then two 0 are left, of which 1 comes.
        self.assertEqual(ask(*TURNED, urn(2, 1), CHANCES)[-1], [0, 1, 3, 2, 3])

    def test_each_as_likely(self):
        self.assertEqual(ask(*WINNERS, urn(1, 1, 1), CHANCES)[-1], [0, 1, 3, 1, 3, 1, 3])
        self.assertEqual(ask(*WINNERS, urn(2, 2, 2), CHANCES)[-1], [0, 1, 3, 1, 3, 1, 3])

    def test_all_together_are_one(self):
        for balls in ((1, 1, 1, 1), (2, 2, 2, 2), (5, 0, 2, 1)):
            shown = ask(begins(4), rule(0, 1, 3), rule(2, 3, 1), rule(3, 3, 0), urn(*balls), CHANCES)
            self.assertEqual(sum(fractions_of(shown[-1])), 1)

    def test_from_where_draws_have_led(self):
        shown = ask(*TURNED, urn(2, 1), CHANCES, draw(0, 0), CHANCES, draw(1, 1), CHANCES)
        self.assertEqual(shown[4::2], [[0, 1, 3, 2, 3], [0, 1, 1, 0, 1], [0, 1, 1, 0, 1]])

    def test_all_rules_of_two_colours(self):
        for outcomes in all_rules(2):
            self.check(2, outcomes, urns_of(2, 8))

    def test_all_rules_of_three_colours(self):
        for outcomes in all_rules(3):
            self.check(3, outcomes, [(1, 1, 1), (2, 0, 1), (1, 2, 2)])

    def test_urns_of_three_and_four_colours(self):
        for k in (3, 4):
            full = [balls for balls in urns_of(k, 8) if sum(balls) == 8]
            for outcomes in some_rules(k):
                self.check(k, outcomes, urns_of(k, 3) + full[::9] + [(2, 2, 2, 2)[:k]])

    def test_urn_and_rule_are_as_they_were(self):
        self.assertEqual(check_kept(self, 2, TURNED + [urn(2, 1)], CHANCES), [0, 1, 3, 2, 3])
        self.assertEqual(check_kept(self, 3, WINNERS + [urn(1, 1, 1)], CHANCES), [0, 1, 3, 1, 3, 1, 3])
        first, second = ask(begins(4), rule(1, 3, 0), urn(2, 2, 2, 2), CHANCES, CHANCES)[3:]
        self.assertEqual(first, second)


class Average(unittest.TestCase):
    def check(self, k, outcomes, balls):
        """average against the slow way, for each m and colour of an urn, ten a line."""
        ahead = [begins(k)] + told_rules(outcomes) + [urn(*balls)]
        asked = [(m, colour) for m in range(1, sum(balls) + 1) for colour in range(k)]
        for at in range(0, len(asked), 10):
            shown = ask(*ahead, *[average(m, colour) for m, colour in asked[at:at + 10]])[len(ahead):]
            expected = [[0] + slow_average(outcomes, balls, m, colour) for m, colour in asked[at:at + 10]]
            self.assertEqual(shown, expected, (outcomes, balls, asked[at:at + 10]))

    def test_as_many_as_there_are(self):
        self.assertEqual(ask(urn(3, 5), average(8, 0), average(8, 1))[1:], [[0, 3, 1], [0, 5, 1]])
        self.assertEqual(ask(begins(4), urn(2, 0, 1, 0), average(3, 0), average(3, 1), average(3, 2))[2:],
                         [[0, 2, 1], [0, 0, 1], [0, 1, 1]])
        self.assertEqual(ask(urn(0, 1), average(1, 0), average(1, 1))[1:], [[0, 0, 1], [0, 1, 1]])

    def test_one_left(self):
        shown = ask(*TURNED, urn(2, 1), average(1, 0), average(1, 1), CHANCES)[4:]
        self.assertEqual(shown, [[0, 1, 3], [0, 2, 3], [0, 1, 3, 2, 3]])
        self.assertEqual(ask(urn(1, 7), average(1, 0), average(1, 1))[1:], [[0, 1, 1], [0, 0, 1]])

    def test_between(self):
        # Of 28 ways 3 take two 0, by which there's one 0 fewer.
        self.assertEqual(ask(urn(3, 5), average(7, 0), average(7, 1))[1:], [[0, 81, 28], [0, 115, 28]])
        # Of 6 ways 1 takes two 0 and leaves 1 2, the others leave 2 1.
        self.assertEqual(ask(urn(2, 2), average(3, 0), average(3, 1))[1:], [[0, 11, 6], [0, 7, 6]])

    def test_balls_of_one_colour_are_told_apart(self):
        # Of 3 ways 1 takes two 1 and leaves 2 0, the others leave 1 1.
        self.assertEqual(ask(*TURNED, urn(1, 2), average(2, 0), average(2, 1))[4:], [[0, 4, 3], [0, 2, 3]])

    def test_lowest_terms(self):
        self.assertEqual(ask(*WINNERS, urn(1, 1, 1), average(2, 0), average(2, 1), average(2, 2))[5:], [[0, 2, 3]] * 3)
        self.assertEqual(ask(rule(1, 1, 0), urn(0, 4), average(3, 0), average(3, 1))[2:], [[0, 1, 1], [0, 2, 1]])

    def test_all_together_are_as_many_as_are_left(self):
        ahead = [begins(4), rule(0, 1, 3), rule(2, 3, 1), rule(3, 3, 0), urn(3, 2, 2, 1)]
        for m in range(1, 9):
            shown = ask(*ahead, *[average(m, colour) for colour in range(4)])[len(ahead):]
            self.assertEqual(sum(fractions_of(told)[0] for told in shown), m)

    def test_against_the_slow_way(self):
        for outcomes in all_rules(2):
            for balls in ((1, 0), (1, 1), (2, 3), (8, 0), (3, 5), (0, 8)):
                self.check(2, outcomes, balls)
        for outcomes in all_rules(3)[::5]:
            self.check(3, outcomes, (1, 2, 1))
        for k in (3, 4):
            for outcomes in some_rules(k):
                for balls in ((2, 2, 2, 2), (1, 0, 6, 1), (0, 3, 1, 0)):
                    self.check(k, outcomes, balls[:k])

    def test_no_such_colour(self):
        for wrong in (2, 3, MOST):
            check_refused(self, 2, TURNED + [urn(2, 1)], average(2, wrong), -1)
        for wrong in (3, 4, MOST):
            check_refused(self, 3, WINNERS + [urn(1, 1, 1)], average(1, wrong), -1)
        for wrong in (4, MOST):
            check_refused(self, 4, [begins(4), urn(2, 2, 2, 2)], average(8, wrong), -1)

    def test_not_so_many_balls(self):
        for m in (0, 4, 5, 8, 9, MOST):
            check_refused(self, 2, TURNED + [urn(2, 1)], average(m, 1), -2)
        for m in (0, 9, MOST):
            check_refused(self, 4, [begins(4), urn(2, 2, 2, 2)], average(m, 3), -2)

    def test_no_ball(self):
        for m in (0, 1, 2, MOST):
            check_refused(self, 2, [], average(m, 0), -2)
            check_refused(self, 3, WINNERS, average(m, 2), -2)

    def test_the_refusal_told_first(self):
        for m in (0, 4, MOST):
            check_refused(self, 2, [], average(m, 2), -1)
            check_refused(self, 2, TURNED + [urn(2, 1)], average(m, 2), -1)
            check_refused(self, 2, TURNED + [urn(2, 1)], average(m, MOST), -1)

    def test_m_comes_ahead_of_the_colour(self):
        self.assertEqual(ask(urn(2, 1), average(2, 1), average(1, 2))[1:], [[0, 1, 3], [-1]])

    def test_urn_and_rule_are_as_they_were(self):
        for m in (1, 2, 3):
            told = check_kept(self, 2, TURNED + [urn(2, 1)], average(m, 0))
            self.assertEqual(told, [0] + slow_average({(0, 0): 1, (0, 1): 0, (1, 1): 0}, (2, 1), m, 0))
        self.assertEqual(check_kept(self, 4, [begins(4), urn(0, 0, 0, 2)], average(1, 3)), [0, 1, 1])


if __name__ == "__main__":
    unittest.main()
