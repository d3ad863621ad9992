"""Point 2: do."""

import unittest

from tests.calls import LARGEST, ask, ask_last, do, world

TRADE = world(2, [([2, 0], [0, 3]), ([0, 0], [9, 9]), ([9, 9], [0, 0])])


class Do(unittest.TestCase):
    def test_the_state_behind_it(self):
        self.assertEqual(ask_last(*TRADE, do([5, 1], 0)), [0, 3, 4])
        self.assertEqual(ask_last(*TRADE, do([0, 0], 1)), [0, 9, 9])
        self.assertEqual(ask_last(*TRADE, do([9, 10], 2)), [0, 0, 1])

    def test_six_stocks(self):
        steps = [([1, 2, 3, 4, 5, 6], [6, 5, 4, 3, 2, 1])]
        self.assertEqual(ask_last(*world(6, steps), do([6, 6, 6, 6, 6, 6], 0)), [0, 11, 9, 7, 5, 3, 1])

    def test_just_as_much_as_it_takes(self):
        self.assertEqual(ask_last(*TRADE, do([2, 0], 0)), [0, 0, 3])

    def test_it_can_not_be_done(self):
        self.assertEqual(ask_last(*TRADE, do([1, 1000000], 0)), [-16])
        self.assertEqual(ask_last(*TRADE, do([9, 8], 2)), [-16])
        self.assertEqual(ask_last(*TRADE, do([8, 9], 2)), [-16])

    def test_what_it_gives_is_not_there_to_be_taken(self):
        self.assertEqual(ask_last(*world(1, [([1], [9])]), do([0], 0)), [-16])
        self.assertEqual(ask_last(*world(1, [([1], [1])]), do([1], 0)), [0, 1])

    def test_no_such_step(self):
        for number in (3, 4, 11, 12, LARGEST):
            self.assertEqual(ask_last(*TRADE, do([5, 5], number)), [-2])
        self.assertEqual(ask_last(*world(1, []), do([5], 0)), [-2])

    def test_the_largest_state(self):
        self.assertEqual(ask_last(*TRADE, do([1000000, 1000000], 0)), [0, 999998, 1000003])
        self.assertEqual(ask_last(*TRADE, do([1000001, 0], 0)), [-22])
        self.assertEqual(ask_last(*TRADE, do([5, 1000001], 0)), [-22])
        self.assertEqual(ask_last(*TRADE, do([5, LARGEST], 0)), [-22])

    def test_the_state_behind_may_be_larger(self):
        self.assertEqual(ask_last(*TRADE, do([1000000, 1000000], 1)), [0, 1000009, 1000009])

    def test_a_list_that_has_not_as_many_numbers_as_stocks(self):
        for length in range(11):
            found = ask_last(*TRADE, do([5] * length, 0))
            self.assertEqual(found, [0, 3, 8] if length == 2 else [-22])

    def test_the_first_named_is_answered(self):
        self.assertEqual(ask_last(*TRADE, do([0], LARGEST)), [-22])
        self.assertEqual(ask_last(*TRADE, do([1000001, 0], 3)), [-22])
        self.assertEqual(ask_last(*TRADE, do([0, 1000001], 0)), [-22])
        self.assertEqual(ask_last(*TRADE, do([0, 0, 0], 0)), [-22])
        self.assertEqual(ask_last(*TRADE, do([0, 0], 3)), [-2])

    def test_it_changes_nothing(self):
        found = ask(*TRADE, do([5, 1], 0), do([0, 0], 0), do([5, 1], 0))
        self.assertEqual(found[-3:], [[0, 3, 4], [-16], [0, 3, 4]])


if __name__ == "__main__":
    unittest.main()
