"""Point 1: begin and step."""

import unittest

from tests.calls import LARGEST, ask, ask_last, begin, do, least, step, world


class Begin(unittest.TestCase):
    def test_one_to_six_stocks(self):
        for stocks in range(1, 7):
            self.assertEqual(ask(begin(stocks)), [[0]])

    def test_other_numbers_are_refused(self):
        for stocks in (0, 7, 8, 12, 1000000, LARGEST):
            self.assertEqual(ask(begin(stocks)), [[-22]])

    def test_refused_till_one_is_answered(self):
        self.assertEqual(ask(begin(0), begin(7), begin(2), step([0, 0], [1, 1])), [[-22], [-22], [0], [0]])

    def test_refused_changes_nothing(self):
        for wrong in (0, 7, LARGEST):
            found = ask(begin(2), step([1, 0], [0, 2]), begin(wrong), do([3, 3], 0), step([0, 0], [0, 0]))
            self.assertEqual(found, [[0], [0], [-22], [0, 2, 5], [1]])

    def test_again_there_are_no_steps(self):
        found = ask(begin(2), step([1, 0], [0, 2]), step([0, 0], [1, 0]), begin(2), do([3, 3], 0), step([0, 0], [0, 1]))
        self.assertEqual(found, [[0], [0], [1], [0], [-2], [0]])

    def test_again_with_other_stocks(self):
        found = ask(begin(2), begin(3), step([0, 0], [0, 0]), step([0, 0, 0], [0, 0, 1]), least([0, 0, 0], [0, 0, 4]))
        self.assertEqual(found, [[0], [0], [-22], [0], [4]])

    def test_again_behind_twelve_steps(self):
        found = ask(*world(1, [([0], [1])] * 12), begin(1), *[step([0], [1])] * 13)
        self.assertEqual(found[13:], [[0]] + [[number] for number in range(12)] + [[-28]])


class StepCall(unittest.TestCase):
    def test_its_number(self):
        for stocks in range(1, 7):
            none = [0] * stocks
            found = ask(begin(stocks), *[step(none, none)] * 3)
            self.assertEqual(found, [[0], [0], [1], [2]])

    def test_a_list_that_has_not_as_many_numbers_as_stocks(self):
        for stocks in range(1, 7):
            for length in range(11):
                other = [1] * length
                right = [1] * stocks
                fits = [0] if length == stocks else [-22]
                self.assertEqual(ask_last(begin(stocks), step(other, right)), fits)
                self.assertEqual(ask_last(begin(stocks), step(right, other)), fits)
                self.assertEqual(ask_last(begin(stocks), step(other, other)), fits)

    def test_nine_and_ten(self):
        for stocks in range(1, 7):
            for place in range(stocks):
                for number in (9, 10, 11, LARGEST):
                    high = [0] * stocks
                    high[place] = number
                    fits = [0] if number == 9 else [-22]
                    self.assertEqual(ask_last(begin(stocks), step(high, [0] * stocks)), fits)
                    self.assertEqual(ask_last(begin(stocks), step([0] * stocks, high)), fits)

    def test_the_twelfth_and_the_thirteenth(self):
        found = ask(begin(2), *[step([0, 1], [9, 9])] * 14)
        self.assertEqual(found, [[0]] + [[number] for number in range(12)] + [[-28], [-28]])

    def test_a_wrong_one_when_there_are_twelve(self):
        full = world(2, [([0, 1], [9, 9])] * 12)
        for wrong in (step([0], [0, 0]), step([0, 0], []), step([10, 0], [0, 0]), step([0, 0], [0, 10])):
            self.assertEqual(ask_last(*full, wrong), [-22])

    def test_refused_changes_nothing(self):
        found = ask(begin(1), step([0], [3]), step([0], [10]), step([0, 0], [1]), step([2], [0]),
                    do([5], 1), do([5], 0), do([5], 2))
        self.assertEqual(found, [[0], [0], [-22], [-22], [1], [0, 3], [0, 8], [-2]])

    def test_the_thirteenth_changes_nothing(self):
        full = world(1, [([0], [1])] * 12)
        self.assertEqual(ask(*full, step([0], [9]), least([0], [9]), do([0], 11), do([0], 12))[13:],
                         [[-28], [9], [0, 1], [-2]])


if __name__ == "__main__":
    unittest.main()
