"""Point 7: keeps."""

import unittest

from tests.calls import ask, ask_last, keeps, world

LOWEST = -2147483648
HIGHEST = 2147483647
EXCHANGE = ([1, 0], [0, 1])
TWO_FOR_THREE = ([2, 0], [0, 3])


class Keeps(unittest.TestCase):
    def test_what_it_gives_weighs_what_it_takes(self):
        self.assertEqual(ask_last(*world(2, [EXCHANGE]), keeps([1, 1])), [1])
        self.assertEqual(ask_last(*world(2, [EXCHANGE]), keeps([7, 7])), [1])
        self.assertEqual(ask_last(*world(2, [TWO_FOR_THREE]), keeps([3, 2])), [1])
        self.assertEqual(ask_last(*world(2, [TWO_FOR_THREE]), keeps([900, 600])), [1])

    def test_it_does_not(self):
        self.assertEqual(ask_last(*world(2, [EXCHANGE]), keeps([1, 2])), [0])
        self.assertEqual(ask_last(*world(2, [EXCHANGE]), keeps([2, 1])), [0])
        self.assertEqual(ask_last(*world(2, [TWO_FOR_THREE]), keeps([2, 3])), [0])
        self.assertEqual(ask_last(*world(2, [TWO_FOR_THREE]), keeps([1, 1])), [0])

    def test_no_steps(self):
        for stocks in range(1, 7):
            self.assertEqual(ask_last(*world(stocks, []), keeps([3, -8, 1000, -1000, 0, 5][:stocks])), [1])

    def test_one_step_of_several_does_not(self):
        good = ([1, 0, 0], [0, 1, 0])
        bad = ([1, 0, 0], [0, 0, 1])
        for place in range(12):
            steps = [good] * 12
            self.assertEqual(ask_last(*world(3, steps), keeps([1, 1, 2])), [1])
            steps[place] = bad
            self.assertEqual(ask_last(*world(3, steps), keeps([1, 1, 2])), [0])
            self.assertEqual(ask_last(*world(3, steps), keeps([1, 1, 1])), [1])

    def test_two_steps_that_make_up_for_one_another_do_not(self):
        steps = [([1, 0], [0, 2]), ([0, 2], [1, 0])]
        self.assertEqual(ask_last(*world(2, steps), keeps([1, 1])), [0])
        self.assertEqual(ask_last(*world(2, steps), keeps([2, 1])), [1])

    def test_a_step_that_can_never_be_done_counts_too(self):
        self.assertEqual(ask_last(*world(2, [EXCHANGE, ([9, 9], [0, 0])]), keeps([1, 1])), [0])

    def test_weights_of_none_alone(self):
        steps = [EXCHANGE, TWO_FOR_THREE, ([0, 0], [9, 9]), ([9, 9], [0, 0])]
        self.assertEqual(ask_last(*world(2, steps), keeps([0, 0])), [1])
        self.assertEqual(ask_last(*world(1, [([0], [1])]), keeps([0])), [1])

    def test_a_stock_that_does_not_count(self):
        self.assertEqual(ask_last(*world(3, [([1, 0, 0], [0, 1, 9])]), keeps([1, 1, 0])), [1])
        self.assertEqual(ask_last(*world(3, [([1, 0, 0], [0, 1, 9])]), keeps([1, 1, 1])), [0])

    def test_weights_below_none_and_above_together(self):
        self.assertEqual(ask_last(*world(2, [([0, 0], [2, 3])]), keeps([3, -2])), [1])
        self.assertEqual(ask_last(*world(2, [([0, 0], [2, 3])]), keeps([-3, 2])), [1])
        self.assertEqual(ask_last(*world(2, [([0, 0], [2, 3])]), keeps([3, 2])), [0])
        self.assertEqual(ask_last(*world(2, [([1, 1], [0, 0])]), keeps([1, -1])), [1])
        self.assertEqual(ask_last(*world(2, [EXCHANGE]), keeps([1, -1])), [0])
        self.assertEqual(ask_last(*world(3, [([5, 0, 1], [0, 5, 1])]), keeps([-4, -4, 9])), [1])

    def test_six_stocks(self):
        steps = [([1, 2, 3, 4, 5, 6], [6, 5, 4, 3, 2, 1])]
        self.assertEqual(ask_last(*world(6, steps), keeps([1, 1, 1, 1, 1, 1])), [1])
        self.assertEqual(ask_last(*world(6, steps), keeps([1, 2, 3, 3, 2, 1])), [1])
        self.assertEqual(ask_last(*world(6, steps), keeps([1, 2, 3, 3, 2, 2])), [0])

    def test_the_heaviest(self):
        self.assertEqual(ask_last(*world(2, [([9, 0], [0, 9])]), keeps([1000, 1000])), [1])
        self.assertEqual(ask_last(*world(2, [([9, 0], [0, 9])]), keeps([-1000, -1000])), [1])
        self.assertEqual(ask_last(*world(2, [([9, 9], [0, 0])]), keeps([-1000, 1000])), [1])
        self.assertEqual(ask_last(*world(2, [([9, 0], [0, 9])]), keeps([-1000, 1000])), [0])
        self.assertEqual(ask_last(*world(2, [([9, 0], [0, 9])]), keeps([999, 1000])), [0])


class WrongWeights(unittest.TestCase):
    def test_a_thousand_and_one_more(self):
        for stocks in range(1, 7):
            for place in range(stocks):
                for weight in (-1000, 1000, -1001, 1001, LOWEST, HIGHEST):
                    weights = [0] * stocks
                    weights[place] = weight
                    fits = [1] if abs(weight) == 1000 else [-22]
                    self.assertEqual(ask_last(*world(stocks, []), keeps(weights)), fits)

    def test_all_of_them(self):
        for weight in (-1001, 1001, LOWEST, HIGHEST):
            self.assertEqual(ask_last(*world(3, [([1, 0, 0], [0, 1, 0])]), keeps([weight] * 3)), [-22])
        self.assertEqual(ask_last(*world(2, [EXCHANGE]), keeps([LOWEST, HIGHEST])), [-22])

    def test_a_list_that_has_not_as_many_numbers_as_stocks(self):
        for stocks in range(1, 7):
            for length in range(11):
                fits = [1] if length == stocks else [-22]
                self.assertEqual(ask_last(*world(stocks, []), keeps([-5] * length)), fits)
                self.assertEqual(ask_last(*world(stocks, [([1] * stocks, [1] * stocks)]), keeps([0] * length)), fits)

    def test_before_it_is_looked_at_whether_they_keep(self):
        for wrong in ([1], [1, 2, 3], [1001, 0], [0, -1001]):
            self.assertEqual(ask_last(*world(2, [EXCHANGE]), keeps(wrong)), [-22])

    def test_it_changes_nothing(self):
        found = ask(*world(2, [EXCHANGE]), keeps([1, 1]), keeps([1001, 1]), keeps([1, 2]), keeps([]), keeps([1, 1]))
        self.assertEqual(found[-5:], [[1], [-22], [0], [-22], [1]])


if __name__ == "__main__":
    unittest.main()
