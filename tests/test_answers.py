import unittest

from helper import LASTS, MOST, SURE, ask, begins, draw, rule, urn
from urndraws.urns import answers

CALLS = [0, 3, 1, 0, 1, 2, 2, 3, 2, 1, 0, 4, 5, 3, 1, 0, 3, 1, 1, 2, 1, 9, 0, 7, 5, 3, 0, 2]
ANSWERS = [1, 0, 1, 0, 1, 3, 3, 2, 0, 2, 1, 0, 4, 2, 1, 0, 1, 1, -2, 1, -1, 1, -1, 2, 1, 0, 4, 0, 1, 0, 0]


class Answers(unittest.TestCase):
    def test_many_calls(self):
        self.assertEqual(answers(CALLS), ANSWERS)

    def test_a_call_alone(self):
        alone = [([0, 4], [1, 0]), ([1, 0, 1, 1], [1, 0]), ([2, 2, 3, 4], [1, 7]), ([2, 0], [1, -1]),
                 ([3, 0, 0], [1, -2]), ([4], [1, -9]), ([5], [1, -9])]
        for calls, expected in alone:
            self.assertEqual(answers(calls), expected)

    def test_rows_that_look_like_calls(self):
        self.assertEqual(answers([2, 8, 0, 1, 2, 3, 4, 5, 4, 5, 4]), [1, -1, 1, -9])
        self.assertEqual(answers([2, 0, 2, 2, 0, 1, 5]), [1, -1, 1, 1, 2, 1, 1])

    def test_forty_calls(self):
        calls = [begins(4), urn(2, 2, 2, 2)] + [rule(3, 2, 3), rule(2, 3, 2)] * 18 + [draw(2, 3), LASTS]
        self.assertEqual(ask(*calls), [[0], [8], [2], [3]] + [[2], [3]] * 17 + [[2, 2, 2, 2, 1], [1, 0]])

    def test_longest_list(self):
        calls = [urn(*[MOST] * 8)] * 40
        self.assertEqual(ask(*calls), [[-1]] * 40)

    def test_nothing_is_kept(self):
        calls = [number for call in ([4], begins(3), rule(0, 0, 2), urn(3, 0, 0), draw(0, 0), SURE) for number in call]
        first = answers(calls)
        self.assertEqual(answers(calls), first)
        self.assertEqual(answers([4, 1, 0, 0, 0, 2, 3, 0, 0, 0]), [1, -9, 1, 0, 1, -1])
        first.append(7)
        self.assertEqual(answers(calls), first[:-1])

    def test_list_is_not_changed(self):
        class Watched(list):
            def refuse(self, *arguments):
                raise AssertionError("the list handed in is changed")

            append = extend = insert = pop = remove = reverse = sort = clear = refuse
            __setitem__ = __delitem__ = __iadd__ = __imul__ = refuse

        watched = Watched(CALLS)
        self.assertEqual(answers(watched), ANSWERS)
        self.assertEqual(list(watched), CALLS)

    def test_kinds(self):
        given = answers(CALLS)
        self.assertIs(type(given), list)
        self.assertEqual({type(number) for number in given}, {int})


if __name__ == "__main__":
    unittest.main()
