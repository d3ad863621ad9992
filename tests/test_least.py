"""Point 3: least."""

import unittest

from tests.calls import LARGEST, ask, ask_last, least, world

ONE_MORE = world(1, [([0], [1])])
# Behind k rounds back from (a, b), with a and b not below k, there are k + 1 least states.
EACH_ONE_MORE = world(2, [([0, 0], [1, 0]), ([0, 0], [0, 1])])
# Behind k rounds back from (0, b), with b not below k, there are k + 1 least states; behind b rounds that's all.
EXCHANGE = world(2, [([1, 0], [0, 1])])
# Back from w there is one least state, lower by 1 each round, till it is 1 behind w - 1 rounds.
DOUBLE = world(1, [([1], [2])])


class Least(unittest.TestCase):
    def test_so_already(self):
        for calls in (EACH_ONE_MORE, EXCHANGE, world(2, [])):
            self.assertEqual(ask_last(*calls, least([0, 0], [0, 0])), [0])
            self.assertEqual(ask_last(*calls, least([7, 5], [7, 5])), [0])
            self.assertEqual(ask_last(*calls, least([1000000, 6], [7, 5])), [0])
            self.assertEqual(ask_last(*calls, least([1000000, 1000000], [1000000, 1000000])), [0])

    def test_one_step_is_not_none(self):
        self.assertEqual(ask_last(*EACH_ONE_MORE, least([7, 4], [7, 5])), [1])
        self.assertEqual(ask_last(*EACH_ONE_MORE, least([6, 5], [7, 5])), [1])

    def test_the_fewest_where_several_runs_come_there(self):
        steps = [([0, 0], [1, 0]), ([0, 0], [0, 1]), ([3, 0], [0, 9]), ([0, 2], [5, 1])]
        self.assertEqual(ask_last(*world(2, steps), least([0, 0], [0, 9])), [4])
        self.assertEqual(ask_last(*world(2, steps), least([0, 1], [5, 0])), [2])
        self.assertEqual(ask_last(*world(2, steps), least([3, 0], [1, 9])), [2])

    def test_a_longer_run_by_what_a_step_takes_away_first(self):
        steps = [([2, 0, 0], [0, 1, 0]), ([0, 2, 0], [0, 0, 1]), ([0, 0, 1], [9, 0, 1])]
        self.assertEqual(ask_last(*world(3, steps), least([4, 0, 0], [0, 0, 1])), [3])
        self.assertEqual(ask_last(*world(3, steps), least([4, 0, 0], [0, 0, 2])), [7])
        self.assertEqual(ask_last(*world(3, steps), least([3, 0, 0], [0, 0, 1])), [-6])

    def test_never(self):
        self.assertEqual(ask_last(*EXCHANGE, least([3, 3], [0, 7])), [-6])
        self.assertEqual(ask_last(*EXCHANGE, least([3, 3], [4, 0])), [-6])
        self.assertEqual(ask_last(*DOUBLE, least([0], [1])), [-6])
        self.assertEqual(ask_last(*world(1, [([1], [0])]), least([1000], [1001])), [-6])

    def test_never_though_the_states_are_endless(self):
        steps = [([1, 0, 0], [1, 9, 0]), ([0, 0, 1], [0, 0, 9])]
        self.assertEqual(ask_last(*world(3, steps), least([1, 0, 0], [1, 500, 1])), [-6])

    def test_no_steps(self):
        found = ask(*world(2, []), least([3, 3], [3, 3]), least([3, 3], [3, 4]), least([0, 0], [1000000, 0]))
        self.assertEqual(found[1:], [[0], [-6], [-6]])

    def test_states_on_the_way_may_be_above_a_million(self):
        steps = [([0, 0], [9, 0]), ([9, 0], [0, 1])]
        self.assertEqual(ask_last(*world(2, steps), least([1000000, 0], [1000000, 1])), [2])
        self.assertEqual(ask_last(*world(2, steps), least([1000000, 0], [999995, 1])), [2])
        self.assertEqual(ask_last(*world(2, steps), least([1000000, 0], [999991, 1])), [1])


class TooManyLeastStates(unittest.TestCase):
    def test_found_before_there_are_more_than_sixty(self):
        self.assertEqual(ask_last(*EACH_ONE_MORE, least([941, 1000], [1000, 1000])), [59])
        self.assertEqual(ask_last(*EACH_ONE_MORE, least([970, 971], [1000, 1000])), [59])

    def test_not_found_before_there_are_more_than_sixty(self):
        self.assertEqual(ask_last(*EACH_ONE_MORE, least([940, 1000], [1000, 1000])), [-75])
        self.assertEqual(ask_last(*EACH_ONE_MORE, least([970, 970], [1000, 1000])), [-75])
        self.assertEqual(ask_last(*EACH_ONE_MORE, least([0, 0], [1000, 1000])), [-75])

    def test_just_sixty_and_more_in_a_round_on_the_way(self):
        self.assertEqual(ask_last(*EACH_ONE_MORE, least([0, 0], [59, 100])), [159])
        self.assertEqual(ask_last(*EACH_ONE_MORE, least([0, 0], [60, 100])), [-75])
        self.assertEqual(ask_last(*EACH_ONE_MORE, least([0, 0], [100, 59])), [159])
        self.assertEqual(ask_last(*EACH_ONE_MORE, least([0, 0], [100, 60])), [-75])

    def test_just_sixty_and_more_where_there_is_no_run(self):
        self.assertEqual(ask_last(*EXCHANGE, least([58, 0], [0, 59])), [-6])
        self.assertEqual(ask_last(*EXCHANGE, least([59, 0], [0, 60])), [-75])
        self.assertEqual(ask_last(*EXCHANGE, least([0, 0], [0, 60])), [-75])

    def test_just_sixty_and_more_in_the_round_that_finds_the_run(self):
        self.assertEqual(ask_last(*EXCHANGE, least([59, 0], [0, 59])), [59])
        self.assertEqual(ask_last(*EXCHANGE, least([59, 1], [0, 60])), [59])
        self.assertEqual(ask_last(*EXCHANGE, least([60, 0], [0, 60])), [-75])

    def test_so_already_whatever_comes_behind(self):
        self.assertEqual(ask_last(*EACH_ONE_MORE, least([1000, 1000], [1000, 1000])), [0])

    def test_states_that_several_steps_lead_from_count_once(self):
        steps = [([0, 0], [1, 0]), ([0, 0], [0, 1])] * 6
        self.assertEqual(ask_last(*world(2, steps), least([0, 0], [59, 100])), [159])

    def test_states_that_have_more_than_another_do_not_count(self):
        steps = [([0, 0], [1, 0]), ([0, 0], [0, 1]), ([1, 0], [2, 0]), ([5, 5], [6, 5]), ([0, 0], [0, 0])]
        self.assertEqual(ask_last(*world(2, steps), least([0, 0], [59, 100])), [159])

    def test_states_that_one_more_round_betters_do_not_count(self):
        steps = [([0, 0], [9, 0]), ([0, 0], [0, 9])]
        self.assertEqual(ask_last(*world(2, steps), least([0, 0], [530, 531])), [118])
        self.assertEqual(ask_last(*world(2, steps), least([0, 0], [532, 531])), [119])
        self.assertEqual(ask_last(*world(2, steps), least([0, 0], [532, 532])), [-75])


class TwoHundredRounds(unittest.TestCase):
    def test_an_answer_of_two_hundred(self):
        self.assertEqual(ask_last(*ONE_MORE, least([0], [199])), [199])
        self.assertEqual(ask_last(*ONE_MORE, least([0], [200])), [200])
        self.assertEqual(ask_last(*ONE_MORE, least([999800], [1000000])), [200])

    def test_not_told_behind_two_hundred(self):
        self.assertEqual(ask_last(*ONE_MORE, least([0], [201])), [-75])
        self.assertEqual(ask_last(*ONE_MORE, least([0], [1000000])), [-75])
        self.assertEqual(ask_last(*ONE_MORE, least([999799], [1000000])), [-75])

    def test_never_is_told_behind_two_hundred(self):
        self.assertEqual(ask_last(*DOUBLE, least([0], [200])), [-6])
        self.assertEqual(ask_last(*DOUBLE, least([0], [201])), [-6])

    def test_never_is_not_told_behind_two_hundred(self):
        self.assertEqual(ask_last(*DOUBLE, least([0], [202])), [-75])
        self.assertEqual(ask_last(*DOUBLE, least([0], [1000000])), [-75])


class WrongStates(unittest.TestCase):
    def test_a_list_that_has_not_as_many_numbers_as_stocks(self):
        for length in range(11):
            fits = [0] if length == 2 else [-22]
            self.assertEqual(ask_last(*EXCHANGE, least([1] * length, [1, 1])), fits)
            self.assertEqual(ask_last(*EXCHANGE, least([1, 1], [1] * length)), fits)
            self.assertEqual(ask_last(*EXCHANGE, least([1] * length, [1] * length)), fits)

    def test_a_number_above_a_million(self):
        for high in (1000001, LARGEST):
            self.assertEqual(ask_last(*EXCHANGE, least([high, 0], [0, 0])), [-22])
            self.assertEqual(ask_last(*EXCHANGE, least([0, high], [0, 0])), [-22])
            self.assertEqual(ask_last(*EXCHANGE, least([0, 0], [high, 0])), [-22])
            self.assertEqual(ask_last(*EXCHANGE, least([0, 0], [0, high])), [-22])
            self.assertEqual(ask_last(*EXCHANGE, least([0, high], [0, high])), [-22])
        self.assertEqual(ask_last(*EXCHANGE, least([1000000, 0], [1000000, 0])), [0])

    def test_before_all_other_refusals(self):
        self.assertEqual(ask_last(*ONE_MORE, least([0], [1000001])), [-22])
        self.assertEqual(ask_last(*world(1, []), least([0, 0], [1])), [-22])

    def test_it_changes_nothing(self):
        found = ask(*EXCHANGE, least([3, 0], [0, 3]), least([3], [0, 3]), least([0, 0], [0, 60]), least([3, 0], [0, 3]))
        self.assertEqual(found[-4:], [[3], [-22], [-75], [3]])


if __name__ == "__main__":
    unittest.main()
