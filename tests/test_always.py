"""Point 6: always."""

import unittest

from tests.calls import LARGEST, always, ask, ask_last, least, many, spread, world

EXCHANGE = world(2, [([1, 0], [0, 1])])
THERE_AND_BACK = world(2, [([1, 0], [0, 1]), ([0, 1], [1, 0])])
ONE_MORE = world(1, [([0], [1])])
# Back from w there is one least state, lower by 1 each round, till it is 1 behind w - 1 rounds.
DOUBLE = world(1, [([1], [2])])
# Back from (w, 0) there are (w, 0) and (w - k, 1) behind k rounds. Where there's none of the second, nothing is done.
DOUBLE_BESIDE = world(2, [([1, 1], [2, 1])])


class Always(unittest.TestCase):
    def test_always(self):
        self.assertEqual(ask_last(*THERE_AND_BACK, always([2, 1], [3, 0])), [1])
        self.assertEqual(ask_last(*THERE_AND_BACK, always([2, 1], [0, 3])), [1])
        self.assertEqual(ask_last(*THERE_AND_BACK, always([2, 1], [1, 1])), [1])
        self.assertEqual(ask_last(*EXCHANGE, always([5, 0], [0, 5])), [1])

    def test_never(self):
        self.assertEqual(ask_last(*THERE_AND_BACK, always([2, 1], [4, 0])), [0])
        self.assertEqual(ask_last(*EXCHANGE, always([5, 0], [0, 6])), [0])

    def test_had_at_once_but_not_again(self):
        self.assertEqual(ask_last(*EXCHANGE, always([1, 0], [1, 0])), [0])
        self.assertEqual(ask_last(*EXCHANGE, always([5, 0], [1, 0])), [0])
        self.assertEqual(ask_last(*world(1, [([1], [0])]), always([9], [1])), [0])
        self.assertEqual(ask_last(*world(1, [([1], [0])]), always([9], [0])), [1])

    def test_to_be_had_but_not_from_each(self):
        steps = [([1, 0, 0], [0, 1, 0]), ([0, 1, 0], [1, 0, 0]), ([1, 0, 0], [0, 0, 1])]
        found = ask(*world(3, steps), least([1, 0, 0], [0, 1, 0]), always([1, 0, 0], [0, 1, 0]),
                    always([1, 0, 0], [0, 0, 1]))
        self.assertEqual(found[-3:], [[1], [0], [1]])

    def test_not_from_one_that_was_found_in_between(self):
        steps = [([1, 0, 0], [0, 1, 0]), ([1, 0, 0], [0, 0, 1])]
        self.assertEqual(ask_last(*world(3, steps), always([1, 0, 0], [0, 0, 1])), [0])
        self.assertEqual(ask_last(*world(3, [steps[0]]), always([1, 0, 0], [0, 1, 0])), [1])

    def test_not_from_the_state_that_was_found_last(self):
        steps = [([1, 0, 0], [0, 1, 0]), ([0, 1, 0], [1, 0, 0]), ([0, 4, 0], [0, 0, 4])]
        self.assertEqual(ask_last(*world(3, steps), always([3, 0, 0], [3, 0, 0])), [1])
        self.assertEqual(ask_last(*world(3, steps), always([4, 0, 0], [1, 0, 0])), [0])

    def test_not_from_the_first_alone(self):
        self.assertEqual(ask_last(*world(1, [([1], [0])]), always([0], [1])), [0])

    def test_by_a_run_that_goes_down_first(self):
        steps = [([4, 0], [0, 1]), ([0, 1], [4, 0])]
        self.assertEqual(ask_last(*world(2, steps), always([9, 0], [1, 2])), [1])
        self.assertEqual(ask_last(*world(2, steps), always([9, 0], [2, 2])), [0])

    def test_no_steps(self):
        found = ask(*world(2, []), always([3, 3], [3, 3]), always([3, 3], [0, 0]), always([3, 3], [3, 4]),
                    always([1000000, 1000000], [1000000, 1000000]), always([0, 0], [0, 1000000]))
        self.assertEqual(found[1:], [[1], [1], [0], [1], [0]])

    def test_states_above_a_million(self):
        steps = [([1, 0], [0, 9]), ([0, 9], [1, 0])]
        self.assertEqual(ask_last(*world(2, steps[:1]), always([3, 1000000], [0, 90])), [1])
        self.assertEqual(ask_last(*world(2, steps[:1]), always([3, 1000000], [1, 90])), [0])
        self.assertEqual(ask_last(*world(2, steps), always([3, 5], [0, 32])), [1])
        self.assertEqual(ask_last(*world(2, steps), always([3, 5], [0, 33])), [0])


class RefusedByTheStates(unittest.TestCase):
    def test_endless(self):
        self.assertEqual(ask_last(*ONE_MORE, always([0], [0])), [-6])
        self.assertEqual(ask_last(*ONE_MORE, always([0], [9])), [-6])

    def test_too_many(self):
        self.assertEqual(ask_last(*EXCHANGE, always([299, 0], [0, 5])), [1])
        self.assertEqual(ask_last(*EXCHANGE, always([300, 0], [0, 5])), [-75])
        self.assertEqual(ask_last(*EXCHANGE, always([299, 0], [1, 0])), [0])
        self.assertEqual(ask_last(*EXCHANGE, always([300, 0], [1, 0])), [-75])

    def test_as_many_answers(self):
        none = [0, 0, 0, 0]
        found = ask(*spread(5), many([20, 3, 0, 0]), always([20, 3, 0, 0], none))
        self.assertEqual(found[-2:], [[-6], [-6]])
        found = ask(*spread(6), many([20, 0, 0, 0]), always([20, 0, 0, 0], none))
        self.assertEqual(found[-2:], [[-75], [-75]])

    def test_endless_before_too_many_least_states(self):
        steps = [([0, 0], [1, 0]), ([0, 0], [0, 1])]
        self.assertEqual(ask_last(*world(2, steps), always([0, 0], [1000, 1000])), [-6])
        self.assertEqual(ask_last(*world(2, steps), always([1000, 1000], [1000, 1000])), [-6])

    def test_endless_before_too_many_rounds(self):
        self.assertEqual(ask_last(*ONE_MORE, always([0], [1000000])), [-6])
        self.assertEqual(ask_last(*DOUBLE, always([1], [202])), [-6])

    def test_too_many_and_too_many_least_states(self):
        self.assertEqual(ask_last(*EXCHANGE, always([300, 0], [0, 60])), [-75])


class RefusedByTheRounds(unittest.TestCase):
    def test_just_sixty_least_states_and_more(self):
        self.assertEqual(ask_last(*EXCHANGE, always([59, 0], [0, 59])), [1])
        self.assertEqual(ask_last(*EXCHANGE, always([58, 0], [0, 59])), [0])
        self.assertEqual(ask_last(*EXCHANGE, always([60, 0], [0, 60])), [-75])
        self.assertEqual(ask_last(*EXCHANGE, always([59, 0], [0, 60])), [-75])
        self.assertEqual(ask_last(*EXCHANGE, always([0, 0], [0, 60])), [-75])

    def test_though_each_state_has_it_already(self):
        self.assertEqual(ask_last(*EXCHANGE, always([0, 59], [0, 59])), [1])
        self.assertEqual(ask_last(*EXCHANGE, always([0, 60], [0, 60])), [-75])
        self.assertEqual(ask_last(*EXCHANGE, always([2, 1000], [0, 1000])), [-75])
        self.assertEqual(ask_last(*EXCHANGE, always([0, 1000000], [0, 1000000])), [-75])

    def test_more_than_sixty_on_the_way_to_less(self):
        # In the end there are two, what's wanted and (0, 0, 1); on the way there are 59, or 60, beside what's wanted.
        calls = world(3, [([0, 0, 1], [1, 0, 1]), ([0, 0, 1], [0, 1, 1])])
        self.assertEqual(ask_last(*calls, always([58, 100, 0], [58, 100, 0])), [1])
        self.assertEqual(ask_last(*calls, always([58, 99, 0], [58, 100, 0])), [0])
        self.assertEqual(ask_last(*calls, always([59, 100, 0], [59, 100, 0])), [-75])
        self.assertEqual(ask_last(*calls, always([0, 0, 0], [100, 59, 0])), [-75])

    def test_the_two_hundredth_round_and_one_more(self):
        self.assertEqual(ask_last(*DOUBLE, always([0], [200])), [0])
        self.assertEqual(ask_last(*DOUBLE, always([0], [201])), [0])
        self.assertEqual(ask_last(*DOUBLE, always([0], [202])), [-75])
        self.assertEqual(ask_last(*DOUBLE, always([0], [1000000])), [-75])

    def test_the_two_hundredth_round_though_each_state_has_it_already(self):
        self.assertEqual(ask_last(*DOUBLE_BESIDE, always([201, 0], [201, 0])), [1])
        self.assertEqual(ask_last(*DOUBLE_BESIDE, always([202, 0], [202, 0])), [-75])
        self.assertEqual(ask_last(*DOUBLE_BESIDE, always([1000000, 0], [202, 0])), [-75])
        self.assertEqual(ask_last(*DOUBLE_BESIDE, always([200, 0], [201, 0])), [0])


class WrongStates(unittest.TestCase):
    def test_a_list_that_has_not_as_many_numbers_as_stocks(self):
        for stocks in range(1, 7):
            right = [1] * stocks
            for length in range(11):
                other = [1] * length
                fits = [1] if length == stocks else [-22]
                self.assertEqual(ask_last(*world(stocks, []), always(other, right)), fits)
                self.assertEqual(ask_last(*world(stocks, []), always(right, other)), fits)
                self.assertEqual(ask_last(*world(stocks, []), always(other, other)), fits)

    def test_a_number_above_a_million(self):
        for high in (1000001, LARGEST):
            for place in range(2):
                wrong = [0, 0]
                wrong[place] = high
                self.assertEqual(ask_last(*EXCHANGE, always(wrong, [0, 0])), [-22])
                self.assertEqual(ask_last(*EXCHANGE, always([0, 0], wrong)), [-22])
                self.assertEqual(ask_last(*EXCHANGE, always(wrong, wrong)), [-22])
        self.assertEqual(ask_last(*EXCHANGE, always([0, 1000000], [0, 0])), [1])

    def test_before_endless(self):
        for wrong in ([1000001], [LARGEST], [], [0, 0]):
            self.assertEqual(ask_last(*ONE_MORE, always(wrong, [0])), [-22])
            self.assertEqual(ask_last(*ONE_MORE, always([0], wrong)), [-22])

    def test_before_too_many(self):
        self.assertEqual(ask_last(*EXCHANGE, always([300, 0], [0])), [-22])
        self.assertEqual(ask_last(*EXCHANGE, always([300, 0], [0, 1000001])), [-22])
        self.assertEqual(ask_last(*EXCHANGE, always([1000001, 0], [0, 60])), [-22])

    def test_it_changes_nothing(self):
        found = ask(*EXCHANGE, always([3, 0], [0, 3]), always([3], [0, 3]), always([300, 0], [0, 3]),
                    always([3, 0], [0, 60]), always([3, 0], [0, 3]))
        self.assertEqual(found[-5:], [[1], [-22], [-75], [-75], [1]])


if __name__ == "__main__":
    unittest.main()
