"""Point 5: many."""

import unittest

from tests.calls import LARGEST, ask, ask_last, many, spread, world

# From (a, 0) there are a + 1 states to come to, one behind another.
EXCHANGE = world(2, [([1, 0], [0, 1])])
ONE_MORE = world(1, [([0], [1])])


class HowMany(unittest.TestCase):
    def test_no_steps(self):
        for stocks in range(1, 7):
            self.assertEqual(ask_last(*world(stocks, []), many([0] * stocks)), [1])
            self.assertEqual(ask_last(*world(stocks, []), many([1000000] * stocks)), [1])

    def test_steps_none_of_which_can_be_done(self):
        steps = [([1, 0], [9, 9]), ([0, 6], [9, 9]), ([0, 9], [0, 0])]
        self.assertEqual(ask_last(*world(2, steps), many([0, 5])), [1])

    def test_a_step_behind_which_the_same_state_stands(self):
        self.assertEqual(ask_last(*world(2, [([0, 0], [0, 0])]), many([0, 0])), [1])
        self.assertEqual(ask_last(*world(2, [([3, 1], [3, 1])]), many([4, 4])), [1])
        self.assertEqual(ask_last(*world(2, [([3, 1], [3, 1]), ([1, 0], [0, 1])]), many([4, 0])), [5])

    def test_one_behind_another(self):
        for much in range(12):
            self.assertEqual(ask_last(*EXCHANGE, many([much, 3])), [much + 1])

    def test_a_state_that_is_less_counts_too(self):
        self.assertEqual(ask_last(*world(1, [([1], [0])]), many([7])), [8])
        self.assertEqual(ask_last(*world(1, [([9], [7])]), many([20])), [7])

    def test_there_and_back(self):
        self.assertEqual(ask_last(*world(2, [([1, 0], [0, 1]), ([0, 1], [1, 0])]), many([3, 4])), [8])

    def test_a_state_that_two_steps_come_to_counts_once(self):
        self.assertEqual(ask_last(*world(2, [([1, 0], [0, 1])] * 12), many([5, 0])), [6])
        self.assertEqual(ask_last(*world(2, [([1, 0], [0, 1]), ([2, 0], [0, 2])]), many([5, 0])), [6])

    def test_a_state_that_is_come_to_in_two_orders_counts_once(self):
        steps = [([1, 0], [0, 0]), ([0, 1], [0, 0])]
        self.assertEqual(ask_last(*world(2, steps), many([1, 1])), [4])
        self.assertEqual(ask_last(*world(2, steps), many([3, 5])), [24])

    def test_all_stocks_count(self):
        steps = []
        for place in range(6):
            steps.append(([int(place == other) for other in range(6)], [0] * 6))
        self.assertEqual(ask_last(*world(6, steps), many([1] * 6)), [64])
        self.assertEqual(ask_last(*world(6, steps), many([2, 2, 2, 2, 0, 2])), [243])

    def test_states_above_a_million(self):
        steps = [([1, 0], [0, 9])]
        self.assertEqual(ask_last(*world(2, steps), many([3, 1000000])), [4])
        self.assertEqual(ask_last(*world(2, steps), many([299, 1000000])), [300])
        self.assertEqual(ask_last(*world(2, [*steps, ([0, 9], [1, 0])]), many([1, 1000000])), [-75])


class Endless(unittest.TestCase):
    def test_more_than_the_one_of_which_the_step_was_done(self):
        for much in (0, 1, 999999, 1000000):
            self.assertEqual(ask_last(*ONE_MORE, many([much])), [-6])
        self.assertEqual(ask_last(*world(2, [([2, 1], [2, 2])]), many([2, 1])), [-6])
        self.assertEqual(ask_last(*world(2, [([2, 1], [2, 2])]), many([1, 1000000])), [1])

    def test_more_than_the_first_by_many_steps(self):
        steps = [
            ([1, 0, 0, 0, 0], [0, 1, 0, 0, 0]),
            ([0, 1, 0, 0, 0], [0, 0, 1, 0, 0]),
            ([0, 0, 1, 0, 0], [0, 0, 0, 1, 0]),
            ([0, 0, 0, 1, 0], [1, 0, 0, 0, 1]),
        ]
        self.assertEqual(ask_last(*world(5, steps), many([1, 0, 0, 0, 0])), [-6])
        self.assertEqual(ask_last(*world(5, steps[:3]), many([1, 0, 0, 0, 0])), [4])
        steps[3] = ([0, 0, 0, 1, 0], [1, 0, 0, 0, 0])
        self.assertEqual(ask_last(*world(5, steps), many([1, 0, 0, 0, 0])), [4])

    def test_more_than_one_between_the_first_and_the_last(self):
        steps = [
            ([1, 0, 0, 0], [0, 1, 0, 0]),
            ([0, 1, 0, 0], [0, 0, 1, 0]),
            ([0, 0, 1, 0], [0, 1, 0, 1]),
        ]
        self.assertEqual(ask_last(*world(4, steps), many([1, 0, 0, 0])), [-6])
        self.assertEqual(ask_last(*world(4, steps), many([0, 0, 0, 9])), [1])

    def test_more_than_one_that_was_found_but_not_by_that_one(self):
        self.assertEqual(ask_last(*world(2, [([1, 0], [0, 1]), ([1, 0], [0, 2])]), many([1, 0])), [3])
        self.assertEqual(ask_last(*world(2, [([1, 0], [0, 1]), ([0, 1], [0, 2])]), many([1, 0])), [-6])

    def test_more_than_one_that_was_found_by_the_same_one_but_before(self):
        steps = [([1, 0, 0], [0, 1, 0]), ([1, 0, 0], [0, 0, 1]), ([0, 0, 1], [0, 2, 0]), ([0, 0, 1], [0, 3, 0])]
        self.assertEqual(ask_last(*world(3, steps), many([1, 0, 0])), [5])

    def test_as_much_is_not_more(self):
        steps = [([1, 0, 0], [0, 1, 0]), ([0, 1, 0], [0, 0, 1]), ([0, 0, 1], [1, 0, 0])]
        self.assertEqual(ask_last(*world(3, steps), many([1, 0, 0])), [3])

    def test_more_of_one_but_less_of_another_is_not_more(self):
        self.assertEqual(ask_last(*world(2, [([1, 0], [0, 9])]), many([5, 0])), [6])
        self.assertEqual(ask_last(*world(2, [([0, 1], [9, 0])]), many([0, 5])), [6])

    def test_found_already_is_not_looked_at_again(self):
        # The last step, of the state that the second one comes to, comes to the one of the fifth. That one has more,
        # but it was found already, and before it is looked at itself more than 300 are found.
        steps = [
            ([0, 1, 0, 0, 0], [0, 0, 1, 0, 0]),
            ([0, 0, 6, 0, 0], [0, 0, 0, 0, 1]),
            ([1, 0, 0, 0, 0], [0, 1, 0, 0, 0]),
            ([1, 0, 0, 0, 0], [0, 0, 0, 1, 0]),
            ([0, 0, 6, 0, 0], [0, 0, 0, 1, 1]),
            ([0, 0, 0, 0, 1], [0, 0, 0, 1, 1]),
        ]
        self.assertEqual(ask_last(*world(5, steps), many([20, 1, 0, 0, 0])), [-75])
        # Without the fifth step it wasn't found already.
        self.assertEqual(ask_last(*world(5, steps[:4] + steps[5:]), many([20, 1, 0, 0, 0])), [-6])

    def test_found_by_one_state_alone(self):
        # Some states are come to from several others; only the one by which a state was found is gone back to.
        steps = [([1, 0, 0], [0, 0, 1]), ([0, 0, 4], [0, 3, 0]), ([0, 1, 0], [1, 0, 0]), ([0, 1, 1], [0, 4, 0])]
        self.assertEqual(ask_last(*world(3, steps), many([20, 0, 12])), [-75])


class ThreeHundred(unittest.TestCase):
    def test_just_three_hundred_and_one_more(self):
        self.assertEqual(ask_last(*EXCHANGE, many([298, 0])), [299])
        self.assertEqual(ask_last(*EXCHANGE, many([299, 0])), [300])
        self.assertEqual(ask_last(*EXCHANGE, many([300, 0])), [-75])
        self.assertEqual(ask_last(*EXCHANGE, many([1000000, 0])), [-75])

    def test_just_three_hundred_by_two_steps(self):
        steps = [([1, 0], [0, 0]), ([0, 1], [0, 0])]
        self.assertEqual(ask_last(*world(2, steps), many([19, 14])), [300])
        self.assertEqual(ask_last(*world(2, steps), many([6, 42])), [-75])

    def test_endless_by_a_later_step_of_the_same_state(self):
        # The 237th that is looked at finds the 301st by a step, and shows by a later one that they're endlessly many.
        self.assertEqual(ask_last(*spread(5), many([20, 3, 0, 0])), [-6])

    def test_endless_by_a_later_state(self):
        # The 245th that is looked at finds the 301st; only the 246th would show that they're endlessly many.
        self.assertEqual(ask_last(*spread(6), many([20, 0, 0, 0])), [-75])

    def test_endless_is_shown_before_three_hundred(self):
        self.assertEqual(ask_last(*spread(3), many([20, 0, 0, 0])), [-6])
        self.assertEqual(ask_last(*world(2, [([1, 0], [0, 1]), ([0, 0], [0, 1])]), many([1000000, 0])), [-6])

    def test_too_many_before_endless_is_shown(self):
        self.assertEqual(ask_last(*spread(8), many([20, 0, 0, 0])), [-75])


class WrongStates(unittest.TestCase):
    def test_a_list_that_has_not_as_many_numbers_as_stocks(self):
        for stocks in range(1, 7):
            for length in range(11):
                fits = [1] if length == stocks else [-22]
                self.assertEqual(ask_last(*world(stocks, []), many([5] * length)), fits)

    def test_a_number_above_a_million(self):
        for high in (1000001, LARGEST):
            self.assertEqual(ask_last(*world(2, []), many([high, 0])), [-22])
            self.assertEqual(ask_last(*world(2, []), many([0, high])), [-22])
        self.assertEqual(ask_last(*world(2, []), many([1000000, 1000000])), [1])

    def test_before_all_other_refusals(self):
        self.assertEqual(ask_last(*ONE_MORE, many([1000001])), [-22])
        self.assertEqual(ask_last(*ONE_MORE, many([0, 0])), [-22])
        self.assertEqual(ask_last(*EXCHANGE, many([1000000, 1000001])), [-22])
        self.assertEqual(ask_last(*EXCHANGE, many([1000000])), [-22])

    def test_it_changes_nothing(self):
        found = ask(*EXCHANGE, many([3, 0]), many([3]), many([300, 0]), many([3, 0]))
        self.assertEqual(found[-4:], [[4], [-22], [-75], [4]])


if __name__ == "__main__":
    unittest.main()
