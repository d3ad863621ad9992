"""Point 4: way."""

import unittest

from tests.calls import LARGEST, ask, ask_last, way, world

ONE_MORE = world(1, [([0], [1])])
EACH_ONE_MORE = world(2, [([0, 0], [1, 0]), ([0, 0], [0, 1])])
EXCHANGE = world(2, [([1, 0], [0, 1])])
DOUBLE = world(1, [([1], [2])])


class Way(unittest.TestCase):
    def test_no_steps_are_needed(self):
        self.assertEqual(ask_last(*EXCHANGE, way([3, 4], [3, 4])), [0])
        self.assertEqual(ask_last(*world(2, []), way([3, 4], [0, 0])), [0])

    def test_the_only_way(self):
        steps = [([0, 0, 1], [0, 0, 0]), ([0, 1, 0], [0, 0, 2]), ([1, 0, 0], [0, 1, 0])]
        self.assertEqual(ask_last(*world(3, steps), way([1, 0, 0], [0, 0, 2])), [2, 2, 1])

    def test_the_least_first_step(self):
        steps = [([1], [0]), ([0], [1]), ([0], [2]), ([0], [2])]
        self.assertEqual(ask_last(*world(1, steps), way([0], [4])), [2, 2, 2])
        self.assertEqual(ask_last(*world(1, steps), way([0], [3])), [2, 1, 2])
        self.assertEqual(ask_last(*world(1, steps), way([0], [5])), [3, 1, 2, 2])

    def test_the_least_second_step(self):
        steps = [([0, 3], [9, 0]), ([0, 0], [0, 3]), ([0, 0], [2, 0])]
        self.assertEqual(ask_last(*world(2, steps), way([0, 0], [9, 0])), [2, 1, 0])
        self.assertEqual(ask_last(*world(2, steps), way([0, 0], [11, 0])), [3, 1, 0, 2])
        self.assertEqual(ask_last(*world(2, steps), way([0, 0], [9, 3])), [3, 1, 0, 1])

    def test_a_lesser_number_where_the_step_can_not_be_done(self):
        steps = [([5], [9]), ([0], [5])]
        self.assertEqual(ask_last(*world(1, steps), way([0], [9])), [2, 1, 0])

    def test_a_lesser_number_that_makes_the_run_longer(self):
        steps = [([0, 0], [1, 0]), ([0, 0], [0, 1]), ([0, 1], [9, 0])]
        self.assertEqual(ask_last(*world(2, steps), way([0, 0], [9, 0])), [2, 1, 2])
        self.assertEqual(ask_last(*world(2, steps), way([0, 0], [10, 0])), [3, 0, 1, 2])

    def test_steps_that_are_alike(self):
        steps = [([9], [0]), ([0], [1]), ([0], [1]), ([0], [1])]
        self.assertEqual(ask_last(*world(1, steps), way([0], [3])), [3, 1, 1, 1])

    def test_states_on_the_way_may_be_above_a_million(self):
        steps = [([9, 0], [0, 1]), ([0, 0], [9, 0])]
        self.assertEqual(ask_last(*world(2, steps), way([1000000, 0], [1000000, 1])), [2, 0, 1])

    def test_more_than_is_wanted(self):
        self.assertEqual(ask_last(*world(1, [([0], [4]), ([0], [9])]), way([0], [13])), [2, 0, 1])
        self.assertEqual(ask_last(*world(1, [([0], [4]), ([0], [9])]), way([0], [14])), [2, 1, 1])


class Refusals(unittest.TestCase):
    def test_sixty_four_steps_and_sixty_five(self):
        self.assertEqual(ask_last(*ONE_MORE, way([0], [63])), [63] + [0] * 63)
        self.assertEqual(ask_last(*ONE_MORE, way([0], [64])), [64] + [0] * 64)
        self.assertEqual(ask_last(*ONE_MORE, way([0], [65])), [-28])
        self.assertEqual(ask_last(*ONE_MORE, way([0], [200])), [-28])

    def test_sixty_four_steps_of_two_sorts(self):
        self.assertEqual(ask_last(*EACH_ONE_MORE, way([0, 0], [4, 60])), [64] + [0] * 4 + [1] * 60)
        self.assertEqual(ask_last(*EACH_ONE_MORE, way([0, 0], [5, 60])), [-28])

    def test_not_told_behind_two_hundred(self):
        self.assertEqual(ask_last(*ONE_MORE, way([0], [201])), [-75])
        self.assertEqual(ask_last(*DOUBLE, way([0], [202])), [-75])

    def test_never(self):
        self.assertEqual(ask_last(*EXCHANGE, way([3, 3], [0, 7])), [-6])
        self.assertEqual(ask_last(*EXCHANGE, way([58, 0], [0, 59])), [-6])
        self.assertEqual(ask_last(*DOUBLE, way([0], [200])), [-6])
        self.assertEqual(ask_last(*world(1, []), way([0], [1])), [-6])

    def test_more_than_sixty_least_states(self):
        self.assertEqual(ask_last(*EXCHANGE, way([59, 0], [0, 59])), [59] + [0] * 59)
        self.assertEqual(ask_last(*EXCHANGE, way([60, 0], [0, 60])), [-75])
        self.assertEqual(ask_last(*EACH_ONE_MORE, way([941, 1000], [1000, 1000])), [59] + [0] * 59)
        self.assertEqual(ask_last(*EACH_ONE_MORE, way([940, 1000], [1000, 1000])), [-75])

    def test_more_than_sixty_is_named_before_more_than_sixty_four(self):
        self.assertEqual(ask_last(*EACH_ONE_MORE, way([0, 0], [59, 100])), [-28])
        self.assertEqual(ask_last(*EACH_ONE_MORE, way([0, 0], [60, 100])), [-75])

    def test_wrong_states(self):
        for length in range(11):
            fits = [0] if length == 2 else [-22]
            self.assertEqual(ask_last(*EXCHANGE, way([1] * length, [1, 1])), fits)
            self.assertEqual(ask_last(*EXCHANGE, way([1, 1], [1] * length)), fits)
        for high in (1000001, LARGEST):
            self.assertEqual(ask_last(*EXCHANGE, way([0, high], [0, 0])), [-22])
            self.assertEqual(ask_last(*EXCHANGE, way([0, 0], [high, 0])), [-22])
        self.assertEqual(ask_last(*EXCHANGE, way([1000000, 0], [1000000, 0])), [0])

    def test_it_changes_nothing(self):
        found = ask(*EXCHANGE, way([2, 0], [0, 2]), way([2], [0, 2]), way([0, 0], [0, 60]), way([2, 0], [0, 2]))
        self.assertEqual(found[-4:], [[2, 0, 0], [-22], [-75], [2, 0, 0]])


if __name__ == "__main__":
    unittest.main()
