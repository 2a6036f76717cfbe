import unittest

from helper import CHANCES, COMES, LASTS, MATTER, MOST, SURE, ask, average, begins, draw, rule, rules, urn
from urndraws.urns import answers

CALLS = [0, 3, 1, 0, 1, 2, 2, 3, 2, 1, 0, 4, 5, 6, 7, 8, 2, 0, 9, 10, 2,
         3, 1, 0, 3, 1, 1, 2, 1, 9, 0, 7, 7, 8, 3, 3, 8, 3, 2, 10, 4, 5, 3, 0, 2]
ANSWERS = [1, 0, 1, 0, 1, 3, 3, 2, 0, 2, 1, 0, 1, 5, 7, 0, 2, 3, 0, 1, 1, 3, 3, 0, 1, 1, 4, 0, 0, 0, 1, 2, 8, 6,
           4, 2, 1, 0, 1, 1, -2, 1, -1, 1, -1, 7, 0, 1, 1, 0, 1, 0, 1, 1, -1, 1, -2, 1, -1, 2, 1, 0, 4, 0, 1, 0, 0]


class Answers(unittest.TestCase):
    def test_many_calls(self):
        self.assertEqual(answers(CALLS), ANSWERS)

    def test_a_call_alone(self):
        alone = [([0, 4], [1, 0]), ([1, 0, 1, 1], [1, 0]), ([2, 2, 3, 4], [1, 7]), ([2, 0], [1, -1]),
                 ([3, 0, 0], [1, -2]), ([4], [1, -9]), ([5], [1, -9]), ([6], [1, 1]), ([7], [1, -9]),
                 ([8, 1, 0], [1, -2]), ([9], [1, 1]), ([10, 2], [2, 8, 6])]
        for calls, expected in alone:
            self.assertEqual(answers(calls), expected)

    def test_rows_that_look_like_calls(self):
        self.assertEqual(answers([2, 8, 0, 1, 2, 3, 4, 5, 4, 5, 4]), [1, -1, 1, -9])
        self.assertEqual(answers([2, 5, 6, 7, 8, 9, 10, 6, 8, 9, 10, 10, 6, 9]), [1, -1, 1, 1, 1, -1, 1, -1, 1, 1])
        self.assertEqual(answers([2, 0, 2, 2, 0, 1, 5]), [1, -1, 1, 1, 2, 1, 1])

    def test_forty_calls(self):
        calls = [begins(4), urn(2, 2, 2, 2)] + [rule(3, 2, 3), rule(2, 3, 2)] * 18 + [draw(2, 3), LASTS]
        self.assertEqual(ask(*calls), [[0], [8], [2], [3]] + [[2], [3]] * 17 + [[2, 2, 2, 2, 1], [1, 0]])

    def test_forty_calls_of_all_kinds(self):
        # Each of the three colours is beaten by one; the two that meet first tell the last.
        winners = [begins(3), rule(0, 1, 1), rule(1, 2, 2), rule(0, 2, 0), urn(1, 1, 1)]
        asked = [LASTS, SURE, COMES, CHANCES, average(2, 1), MATTER, rules(3), rules(4)]
        again = [draw(0, 2), LASTS, SURE, COMES, CHANCES, average(1, 1), MATTER]
        told = [[0], [0], [1], [0], [3]] + [[3, 0, 1, 2], [0], [7], [0, 1, 3, 1, 3, 1, 3], [0, 2, 3], [0, 0, 1, 2],
                                            [729, 63], [-1]]
        told_again = [[0, 1, 1, 0], [1, 1], [1, 1], [2], [0, 0, 1, 1, 1, 0, 1], [0, 1, 1], [0, 0, 1, 2]]
        refused = [begins(5), rule(3, 0, 0), urn(9, 0, 0), draw(3, 3), draw(2, 2)] * 4
        self.assertEqual(len(winners + asked + again + refused), 40)
        shown = ask(*winners, *asked, *refused, *again)
        self.assertEqual(shown, told + [[-1], [-1], [-1], [-1], [-2]] * 4 + told_again)

    def test_longest_list(self):
        calls = [urn(*[MOST] * 8)] * 40
        self.assertEqual(ask(*calls), [[-1]] * 40)

    def test_nothing_is_kept(self):
        calls = [number for call in ([4], begins(3), rule(0, 0, 2), urn(3, 0, 0), draw(0, 0), SURE) for number in call]
        first = answers(calls)
        self.assertEqual(answers(calls), first)
        self.assertEqual(answers([4, 1, 0, 0, 0, 2, 3, 0, 0, 0]), [1, -9, 1, 0, 1, -1])
        first.append(7)
        self.assertEqual(answers(calls), first[:-1])

    def test_list_is_not_changed(self):
        class Watched(list):
            def refuse(self, *arguments):
                raise AssertionError("the list handed in is changed")

            append = extend = insert = pop = remove = reverse = sort = clear = refuse
            __setitem__ = __delitem__ = __iadd__ = __imul__ = refuse

        watched = Watched(CALLS)
        self.assertEqual(answers(watched), ANSWERS)
        self.assertEqual(list(watched), CALLS)

    def test_kinds(self):
        given = answers(CALLS)
        self.assertIs(type(given), list)
        self.assertEqual({type(number) for number in given}, {int})


if __name__ == "__main__":
    unittest.main()
