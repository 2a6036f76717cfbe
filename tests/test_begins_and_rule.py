import unittest

from helper import LASTS, MOST, SURE, ask, begins, check_refused, draw, rule, urn

TURNED = [rule(0, 0, 1), rule(0, 1, 1), rule(1, 1, 0), urn(2, 3)]
THREE = [begins(3), rule(0, 1, 2), rule(2, 2, 1), rule(1, 2, 0), urn(2, 1, 3)]


class Begins(unittest.TestCase):
    def test_new_line(self):
        shown = ask(LASTS, SURE, urn(1, 1), urn(1, 1, 1), rule(0, 0, 0), rule(0, 1, 0), rule(1, 1, 0))
        self.assertEqual(shown, [[-9], [-9], [2], [-1], [0], [0], [1]])

    def test_new_line_has_two_colours(self):
        self.assertEqual(ask(rule(2, 0, 0), draw(2, 0), draw(0, 1), draw(0, 0)), [[-1], [-1], [-2], [-2]])

    def test_each_number_of_colours(self):
        for k in (2, 3, 4):
            pairs = [(a, b) for a in range(k) for b in range(k)]
            shown = ask(begins(k), LASTS, *[rule(a, b, min(a, b)) for a, b in pairs])
            self.assertEqual(shown, [[0], [-9]] + [[min(a, b)] for a, b in pairs])
            edge = ask(begins(k), rule(k, 0, 0), rule(k - 1, 0, 0), urn(*[0] * k), urn(*[0] * (k + 1)))
            self.assertEqual(edge, [[0], [-1], [0], [0], [-1]])

    def test_begins_again_forgets_rule_and_balls(self):
        for k in (2, 3, 4):
            shown = ask(*TURNED, begins(k), LASTS, draw(0, 1), rule(0, 0, 0), rule(0, 1, 0), rule(1, 1, 1))
            self.assertEqual(shown[len(TURNED):], [[0], [-9], [-2], [0], [0], [1]])

    def test_fewer_colours_again(self):
        shown = ask(*THREE, begins(2), urn(0, 0, 1), draw(2, 2), rule(0, 2, 0), urn(3, 1), LASTS)
        self.assertEqual(shown[len(THREE):], [[0], [-1], [-1], [-1], [4], [1, 0]])

    def test_refused(self):
        for k in (0, 1, 5, MOST):
            check_refused(self, 2, [], begins(k), -1)
            check_refused(self, 2, TURNED, begins(k), -1)
            check_refused(self, 3, THREE, begins(k), -1)


class Rule(unittest.TestCase):
    def test_answers_what_came_before(self):
        shown = ask(begins(3), rule(1, 2, 0), rule(1, 2, 2), rule(1, 2, 1), rule(1, 2, 1))
        self.assertEqual(shown, [[0], [1], [0], [2], [1]])

    def test_either_order(self):
        shown = ask(begins(4), rule(3, 1, 2), rule(1, 3, 0), rule(3, 1, 3), rule(1, 3, 1))
        self.assertEqual(shown, [[0], [1], [2], [0], [3]])

    def test_one_colour_twice(self):
        self.assertEqual(ask(rule(1, 1, 0), rule(1, 1, 1), rule(0, 0, 1), rule(0, 0, 0)), [[1], [0], [0], [1]])

    def test_no_other_two_are_touched(self):
        for k in (2, 3, 4):
            pairs = [(a, b) for a in range(k) for b in range(a, k)]
            for a, b in pairs:
                others = [(c, d) for c, d in pairs if (c, d) != (a, b)]
                shown = ask(begins(k), rule(b, a, k - 1), *[rule(d, c, 0) for c, d in others], rule(a, b, 0))
                self.assertEqual(shown[2:], [[c] for c, d in others] + [[k - 1]])

    def test_balls_stay(self):
        shown = ask(urn(2, 1), rule(0, 1, 1), draw(0, 1))
        self.assertEqual(shown, [[3], [0], [1, 1, 1]])

    def test_draws_follow_it_in_either_order(self):
        for a, b in ((0, 2), (2, 0)):
            shown = ask(begins(3), urn(1, 0, 1), rule(0, 2, 1), draw(a, b))
            self.assertEqual(shown[-1], [1, 0, 1, 0])

    def test_refused(self):
        for wrong in (2, 3, MOST):
            for call in (rule(wrong, 0, 0), rule(0, wrong, 0), rule(0, 1, wrong), rule(wrong, wrong, wrong)):
                check_refused(self, 2, [], call, -1)
                check_refused(self, 2, TURNED, call, -1)
        for wrong in (3, 4, MOST):
            for call in (rule(wrong, 2, 0), rule(2, wrong, 0), rule(1, 2, wrong)):
                check_refused(self, 3, THREE, call, -1)
        for call in (rule(4, 0, 0), rule(0, 4, 0), rule(0, 0, 4)):
            check_refused(self, 4, [begins(4), urn(1, 2, 3, 2)], call, -1)


if __name__ == "__main__":
    unittest.main()
