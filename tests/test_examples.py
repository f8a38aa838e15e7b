"""The examples of section 1, of section 4.2 and of the interface, octet by octet."""

import unittest

from askfirst.session import answers
from wording import ANSWERS, TASTES, UNDO, ask

ZERO = [0, 0, 0, 0, 0, 0, 0, 0]
ONE = [1, 0, 0, 0, 0, 0, 0, 0]
TWO = [2, 0, 0, 0, 0, 0, 0, 0]
THREE = [3, 0, 0, 0, 0, 0, 0, 0]
FOUR = [4, 0, 0, 0, 0, 0, 0, 0]
FIVE = [5, 0, 0, 0, 0, 0, 0, 0]
EIGHT = [8, 0, 0, 0, 0, 0, 0, 0]
ELEVEN = [11, 0, 0, 0, 0, 0, 0, 0]
SIXTEEN = [16, 0, 0, 0, 0, 0, 0, 0]
TWENTY_SEVEN = [27, 0, 0, 0, 0, 0, 0, 0]
LESS_THREE = [253, 255, 255, 255, 255, 255, 255, 255]
LESS_SIX = [250, 255, 255, 255, 255, 255, 255, 255]

TASK = [4, 3, 0, 2, 1, 1, 3, 0] + [2, 0] + FOUR + ONE + [2, 0] + LESS_SIX + ONE + [2, 0] + TWO + LESS_THREE
SMALL = [2, 2, 0, 1, 1, 2, 0, 1, 0] + FOUR + [1, 0] + LESS_SIX
SMALL_UNIT_3 = [3] + SMALL[1:]


class Interface(unittest.TestCase):
    def test_worth(self):
        self.assertEqual(ask([3] + SMALL + [0, 1]), [[0] + TWO + ONE + THREE + ONE + [1] + TWO + FIVE])

    def test_best(self):
        self.assertEqual(ask([2] + SMALL + [0, 1]), [[0, 1, 0, 0, 0] + ONE + ONE])

    def test_unit_that_the_weights_do_not_reach(self):
        self.assertEqual(ask([3] + SMALL_UNIT_3 + [0, 1], [2] + SMALL_UNIT_3 + [0, 1]), [[1, 3], [1, 3]])

    def test_each_answer_stands_behind_its_length(self):
        request = [2] + SMALL + [0, 1]
        calls = [0, 1, 8, 0, 0, 0, len(request)] + request
        self.assertEqual(answers(calls), [2, 1, 2, 2, 1, 1, 21, 0, 1, 0, 0, 0] + ONE + ONE)


class SectionOne(unittest.TestCase):
    def test_worth(self):
        self.assertEqual(ask([3] + TASK + [0, 0]), [[0] + FIVE + TWO + THREE + TWO + [1] + THREE + EIGHT])

    def test_acting_is_sure_of_1(self):
        self.assertEqual(ask([1] + TASK + [0, 0, 1, 0, 25, 0]), [[0] + ONE + ONE + [3, 0, 0, 0, 0, 0, 0, 0]])

    def test_asking_first_is_sure_of_3_halves(self):
        chances = [1, 0] + THREE + FOUR + [1, 0] + ONE + FOUR + [1, 0] + THREE + FOUR
        self.assertEqual(ask([1] + TASK + [1, 0, 0, 0, 25, 0]), [[0] + THREE + TWO + [3, 0] + chances])

    def test_best_without_errors(self):
        self.assertEqual(ask([2] + TASK + [0, 0]), [[0, 1, 0, 0, 1, 1] + ELEVEN + FOUR])

    def test_best_with_the_error_25(self):
        self.assertEqual(ask([2] + TASK + [25, 0]), [[0, 2, 0, 0, 1, 0] + TWENTY_SEVEN + SIXTEEN])

    def test_up_to_37_percents(self):
        self.assertEqual(ask([4] + TASK + [1, 0, 0, 0, 0] + ONE), [[0, 1, 37]])


class SectionFour(unittest.TestCase):
    def test_talk(self):
        given = ask([5] + TASK, [6, 0, 0], TASTES, [7, 25, 0], ANSWERS, UNDO, ANSWERS)
        self.assertEqual(given, [
            [0], [0, 1], [0, 1, 0, 1], [0, 2, 0, 0, 1, 0] + TWENTY_SEVEN + SIXTEEN, [0, 1, 0, 0, 0], [0], [0, 0, 0],
        ])


if __name__ == "__main__":
    unittest.main()
