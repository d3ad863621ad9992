"""Point 5: stuck."""

import unittest

from tests.calls import LARGEST, ask, ask_last, spread, stuck, world

EXCHANGE = world(2, [([1, 0], [0, 1])])
ONE_MORE = world(1, [([0], [1])])
TO_SECOND = ([1, 0, 0], [0, 1, 0])
TO_THIRD = ([1, 0, 0], [0, 0, 1])


class Stuck(unittest.TestCase):
    def test_none(self):
        self.assertEqual(ask_last(*world(2, [([1, 0], [0, 1]), ([0, 1], [1, 0])]), stuck([2, 1])), [0])
        self.assertEqual(ask_last(*world(2, [([0, 0], [0, 0])]), stuck([0, 0])), [0])

    def test_a_step_behind_which_the_same_state_stands_can_be_done(self):
        self.assertEqual(ask_last(*world(2, [([1, 0], [0, 1]), ([0, 4], [0, 4])]), stuck([4, 0])), [0])
        self.assertEqual(ask_last(*world(2, [([1, 0], [0, 1]), ([0, 5], [0, 5])]), stuck([4, 0])), [1, 0, 4])

    def test_one(self):
        self.assertEqual(ask_last(*EXCHANGE, stuck([5, 2])), [1, 0, 7])
        self.assertEqual(ask_last(*world(1, [([3], [1])]), stuck([9])), [1, 1])
        self.assertEqual(ask_last(*world(1, [([3], [1])]), stuck([10])), [1, 2])

    def test_no_steps_at_all(self):
        for stocks in range(1, 7):
            first = [7, 0, 1000000, 3, 2, 1][:stocks]
            self.assertEqual(ask_last(*world(stocks, []), stuck(first)), [1, *first])

    def test_the_first_state_itself(self):
        self.assertEqual(ask_last(*EXCHANGE, stuck([0, 9])), [1, 0, 9])
        self.assertEqual(ask_last(*world(2, [([1, 0], [0, 1]), ([0, 9], [9, 9])]), stuck([0, 8])), [1, 0, 8])
        self.assertEqual(ask_last(*EXCHANGE, stuck([0, 0])), [1, 0, 0])

    def test_several_by_the_order_of_the_steps(self):
        self.assertEqual(ask_last(*world(3, [TO_SECOND, TO_THIRD]), stuck([1, 0, 0])), [2, 0, 1, 0])
        self.assertEqual(ask_last(*world(3, [TO_THIRD, TO_SECOND]), stuck([1, 0, 0])), [2, 0, 0, 1])
        self.assertEqual(ask_last(*world(3, [TO_SECOND, TO_THIRD]), stuck([4, 0, 0])), [5, 0, 4, 0])
        self.assertEqual(ask_last(*world(3, [TO_THIRD, TO_SECOND]), stuck([4, 0, 0])), [5, 0, 0, 4])

    def test_several_by_fewer_steps(self):
        # The second is found by the first step, but it isn't stuck; behind it the fourth waits behind the third.
        steps = [
            ([1, 0, 0, 0], [0, 1, 0, 0]),
            ([0, 1, 0, 0], [0, 0, 0, 1]),
            ([1, 0, 0, 0], [0, 0, 1, 0]),
        ]
        self.assertEqual(ask_last(*world(4, steps), stuck([1, 0, 0, 0])), [2, 0, 0, 1, 0])

    def test_several_of_as_many_steps_by_the_one_that_waited_longer(self):
        steps = [
            ([0, 1, 0, 0, 0], [0, 0, 0, 0, 1]),
            ([0, 0, 1, 0, 0], [0, 0, 0, 1, 0]),
            ([1, 0, 0, 0, 0], [0, 0, 1, 0, 0]),
            ([1, 0, 0, 0, 0], [0, 1, 0, 0, 0]),
        ]
        self.assertEqual(ask_last(*world(5, steps), stuck([1, 0, 0, 0, 0])), [2, 0, 0, 0, 1, 0])

    def test_no_others(self):
        steps = [([2, 0], [1, 0]), ([0, 2], [0, 1])]
        self.assertEqual(ask_last(*world(2, steps), stuck([9, 9])), [1, 1, 1])
        self.assertEqual(ask_last(*world(2, [([2, 1], [0, 2])]), stuck([9, 1])), [1, 1, 5])

    def test_one_that_two_steps_come_to_counts_once(self):
        self.assertEqual(ask_last(*world(2, [([1, 0], [0, 1])] * 12), stuck([5, 0])), [1, 0, 5])

    def test_states_above_a_million(self):
        self.assertEqual(ask_last(*world(2, [([1, 0], [0, 9])]), stuck([3, 1000000])), [1, 0, 1000027])

    def test_just_three_hundred_states(self):
        self.assertEqual(ask_last(*EXCHANGE, stuck([299, 0])), [1, 0, 299])
        self.assertEqual(ask_last(*world(3, [TO_SECOND, TO_THIRD]), stuck([22, 5, 6])), [23, 0, 27, 6])


class Refusals(unittest.TestCase):
    def test_endless(self):
        self.assertEqual(ask_last(*ONE_MORE, stuck([0])), [-6])
        self.assertEqual(ask_last(*ONE_MORE, stuck([1000000])), [-6])
        steps = [([1, 0, 0], [0, 1, 0]), ([0, 1, 0], [1, 0, 1]), ([1, 0, 0], [0, 0, 0])]
        self.assertEqual(ask_last(*world(3, steps), stuck([1, 0, 0])), [-6])

    def test_too_many(self):
        self.assertEqual(ask_last(*EXCHANGE, stuck([300, 0])), [-75])
        self.assertEqual(ask_last(*world(3, [TO_SECOND, TO_THIRD]), stuck([1000000, 0, 0])), [-75])

    def test_endless_and_too_many(self):
        self.assertEqual(ask_last(*spread(5), stuck([20, 3, 0, 0])), [-6])
        self.assertEqual(ask_last(*spread(6), stuck([20, 0, 0, 0])), [-75])

    def test_a_list_that_has_not_as_many_numbers_as_stocks(self):
        for stocks in range(1, 7):
            for length in range(11):
                fits = [1] + [5] * stocks if length == stocks else [-22]
                self.assertEqual(ask_last(*world(stocks, []), stuck([5] * length)), fits)

    def test_a_number_above_a_million(self):
        for high in (1000001, LARGEST):
            self.assertEqual(ask_last(*EXCHANGE, stuck([high, 0])), [-22])
            self.assertEqual(ask_last(*EXCHANGE, stuck([0, high])), [-22])
        self.assertEqual(ask_last(*EXCHANGE, stuck([0, 1000000])), [1, 0, 1000000])

    def test_wrong_states_before_all_other_refusals(self):
        self.assertEqual(ask_last(*ONE_MORE, stuck([1000001])), [-22])
        self.assertEqual(ask_last(*ONE_MORE, stuck([])), [-22])
        self.assertEqual(ask_last(*EXCHANGE, stuck([1000001, 0])), [-22])
        self.assertEqual(ask_last(*EXCHANGE, stuck([300, 0, 0])), [-22])

    def test_it_changes_nothing(self):
        found = ask(*EXCHANGE, stuck([2, 0]), stuck([2]), stuck([300, 0]), stuck([2, 0]))
        self.assertEqual(found[-4:], [[1, 0, 2], [-22], [-75], [1, 0, 2]])


if __name__ == "__main__":
    unittest.main()
