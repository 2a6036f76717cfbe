import unittest

from helper import LASTS, MOST, SURE, ask, begins, check_refused, draw, rule, urn

THREE = [begins(3), rule(0, 1, 2), rule(2, 2, 1), urn(2, 1, 3)]


class UrnCall(unittest.TestCase):
    def test_how_many_balls(self):
        self.assertEqual(ask(urn(3, 2), urn(0, 1)), [[5], [1]])
        self.assertEqual(ask(begins(3), urn(1, 2, 4)), [[0], [7]])
        self.assertEqual(ask(begins(4), urn(1, 0, 2, 1)), [[0], [4]])

    def test_just_eight(self):
        self.assertEqual(ask(urn(8, 0), urn(0, 8), urn(3, 5)), [[8], [8], [8]])
        self.assertEqual(ask(begins(4), urn(2, 2, 2, 2), draw(3, 3)), [[0], [8], [3, 2, 2, 2, 1]])

    def test_no_ball_is_taken(self):
        for k in (2, 3, 4):
            shown = ask(begins(k), urn(*[1] * k), urn(*[0] * k), LASTS, draw(0, 1))
            self.assertEqual(shown, [[0], [k], [0], [-9], [-2]])

    def test_takes_the_place_of_what_was_there(self):
        self.assertEqual(ask(urn(5, 0), urn(0, 2), draw(1, 1), SURE), [[5], [2], [1, 0, 1], [1, 1]])

    def test_rule_stays(self):
        self.assertEqual(ask(rule(0, 0, 1), urn(2, 0), rule(0, 0, 0)), [[0], [2], [1]])

    def test_refused_by_length(self):
        for k in (2, 3, 4):
            ahead = [begins(k), rule(1, 1, 0), urn(*[2] * k)]
            for length in range(9):
                if length != k:
                    check_refused(self, k, ahead, urn(*[0] * length), -1)
                    check_refused(self, k, ahead, urn(*[1] * length), -1)
                    check_refused(self, k, ahead, urn(*[MOST] * length), -1)
        check_refused(self, 2, [], urn(), -1)

    def test_refused_by_too_many(self):
        for balls in ((9, 0), (0, 9), (4, 5), (1, 8), (MOST, 0), (0, MOST), (MOST, MOST)):
            check_refused(self, 2, [], urn(*balls), -1)
            check_refused(self, 2, [urn(1, 3)], urn(*balls), -1)
        for balls in ((3, 3, 3), (0, 0, 9), (MOST, MOST, MOST)):
            check_refused(self, 3, THREE, urn(*balls), -1)
        check_refused(self, 4, [begins(4), urn(1, 1, 1, 1)], urn(2, 2, 2, 3), -1)


class Draw(unittest.TestCase):
    def test_one_of_the_two_comes(self):
        self.assertEqual(ask(urn(2, 3), draw(0, 1)), [[5], [0, 2, 2]])
        self.assertEqual(ask(urn(2, 3), draw(1, 0)), [[5], [0, 2, 2]])
        self.assertEqual(ask(urn(2, 3), rule(0, 1, 1), draw(0, 1)), [[5], [0], [1, 1, 3]])

    def test_a_third_comes(self):
        ahead = [begins(3), rule(0, 1, 2), urn(1, 2, 0)]
        for a, b in ((0, 1), (1, 0)):
            self.assertEqual(ask(*ahead, draw(a, b))[-1], [2, 0, 1, 1])

    def test_two_of_one_colour(self):
        self.assertEqual(ask(urn(0, 2), draw(1, 1)), [[2], [1, 0, 1]])
        self.assertEqual(ask(rule(1, 1, 0), urn(1, 3), draw(1, 1)), [[1], [4], [0, 2, 1]])

    def test_four_colours(self):
        shown = ask(begins(4), rule(3, 3, 1), rule(2, 0, 3), urn(1, 0, 2, 3), draw(3, 3), draw(2, 0), draw(3, 1))
        self.assertEqual(shown[4:], [[1, 1, 1, 2, 1], [3, 0, 1, 1, 2], [1, 0, 1, 1, 1]])

    def test_till_one_is_left(self):
        shown = ask(urn(2, 1), draw(0, 1), draw(0, 0), draw(0, 0), draw(0, 1))
        self.assertEqual(shown, [[3], [0, 2, 0], [0, 1, 0], [-2], [-2]])

    def test_no_such_colour(self):
        for wrong in (2, 3, MOST):
            for call in (draw(wrong, 0), draw(0, wrong), draw(wrong, wrong)):
                check_refused(self, 2, [rule(0, 1, 1), urn(3, 3)], call, -1)
        for call in (draw(3, 0), draw(2, 3), draw(MOST, MOST)):
            check_refused(self, 3, THREE, call, -1)
        for call in (draw(4, 0), draw(0, 4)):
            check_refused(self, 4, [begins(4), urn(2, 2, 2, 2)], call, -1)

    def test_balls_are_not_there(self):
        for call in (draw(0, 1), draw(1, 0), draw(0, 0)):
            check_refused(self, 2, [rule(0, 0, 1), urn(0, 3)], call, -2)
            check_refused(self, 2, [], call, -2)
        for call in (draw(0, 0), draw(1, 1)):
            check_refused(self, 2, [urn(1, 1)], call, -2)
        for call in (draw(1, 1), draw(1, 3), draw(3, 1), draw(3, 3)):
            check_refused(self, 4, [begins(4), urn(4, 1, 3, 0)], call, -2)

    def test_the_refusal_told_first(self):
        for call in (draw(2, 0), draw(0, 2), draw(2, 2), draw(MOST, 1)):
            check_refused(self, 2, [], call, -1)
            check_refused(self, 2, [urn(0, 1)], call, -1)


if __name__ == "__main__":
    unittest.main()
