"""The interface: how calls and answers are laid into lists, and what is kept."""

import unittest

from stockruns.states import answers
from tests.calls import always, begin, do, keeps, lay, least, many, step, stuck, way, world

ALL_CALLS = lay([
    begin(9), begin(2), step([1, 0], [0, 2]), step([0, 1], [0]), step([0, 0], [1, 0]), do([4, 4], 0), do([0, 0], 0),
    least([0, 0], [0, 3]), least([0, 0], [0]), way([0, 0], [0, 3]), way([0, 0], [0, 0]), way([0, 0], [0, 1000000]),
    many([0, 0]), stuck([0, 0]), always([0, 0], [0, 0]), keeps([0, 0]), keeps([-2147483648, 2147483647]),
    begin(7), begin(1), least([0], [1]), many([4]), stuck([4]), always([4], [4]), always([4], [5]), keeps([-7]),
    begin(3), step([1, 0, 0], [0, 1, 0]), step([1, 0, 0], [0, 0, 2]), do([1, 1, 1], 1), least([3, 0, 0], [1, 1, 2]),
    way([3, 0, 0], [1, 1, 2]), many([3, 0, 0]), stuck([3, 0, 0]), always([3, 0, 0], [0, 0, 0]),
    always([3, 0, 0], [0, 1, 0]), keeps([2, 2, 1]), keeps([1, 1, 1]), keeps([2, 2]), many([300, 0, 0]),
    stuck([300, 0, 0]), always([300, 0, 0], [0, 0, 0]), stuck([1, 0]), always([1, 0, 0], [1]), many([]),
])
ALL_ANSWERS = [
    1, -22, 1, 0, 1, 0, 1, -22, 1, 1, 3, 0, 3, 6, 1, -16,
    1, 4, 1, -22, 5, 4, 1, 0, 1, 0, 1, 0, 1, -75,
    1, -6, 1, -6, 1, -6, 1, 1, 1, -22,
    1, -22, 1, 0, 1, -6, 1, 1, 2, 1, 4, 1, 1, 1, 0, 1, 1,
    1, 0, 1, 0, 1, 1, 4, 0, 0, 1, 3, 1, 2,
    3, 2, 0, 1, 1, 10, 4, 4, 0, 3, 0, 1, 1,
    1, 0, 1, 1, 1, 0, 1, -22, 1, -75,
    1, -75, 1, -75, 1, -22, 1, -22, 1, -22,
]


class Interface(unittest.TestCase):
    def test_written_out(self):
        calls = [0, 2, 1, 2, 1, 0, 2, 0, 3, 2, 0, 2, 5, 6, 3, 2, 2, 0, 2, 0, 6, 4, 2, 2, 0, 2, 0, 6]
        self.assertEqual(answers(calls), [1, 0, 1, 0, 3, 0, 4, 9, 1, 2, 3, 2, 0, 0])

    def test_written_out_from_many_to_keeps(self):
        calls = [0, 2, 1, 2, 1, 0, 2, 0, 3, 5, 2, 2, 0, 6, 2, 2, 0, 7, 2, 2, 0, 2, 0, 6, 8, 2, -3, -1, 8, 2, 3, 2]
        self.assertEqual(answers(calls), [1, 0, 1, 0, 1, 3, 3, 1, 0, 6, 1, 1, 1, 1, 1, 0])

    def test_stuck_has_its_count_before_the_state(self):
        self.assertEqual(answers([0, 1, 6, 1, 8]), [1, 0, 2, 1, 8])
        self.assertEqual(answers([0, 1, 1, 1, 0, 1, 0, 6, 1, 8]), [1, 0, 1, 0, 1, 0])
        self.assertEqual(answers([0, 1, 1, 1, 0, 1, 1, 6, 1, 8]), [1, 0, 1, 0, 1, -6])

    def test_rows_without_numbers(self):
        self.assertEqual(answers([0, 1, 1, 0, 0, 2, 0, 0, 3, 0, 0, 4, 0, 0]), [1, 0, 1, -22, 1, -22, 1, -22, 1, -22])
        self.assertEqual(answers([0, 1, 5, 0, 6, 0, 7, 0, 0, 8, 0]), [1, 0, 1, -22, 1, -22, 1, -22, 1, -22])

    def test_all_calls_one_behind_another(self):
        self.assertEqual(answers(ALL_CALLS), ALL_ANSWERS)

    def test_one_call_alone(self):
        self.assertEqual(answers([0, 1]), [1, 0])
        self.assertEqual(answers([0, 0]), [1, -22])

    def test_what_is_handed_in_stays(self):
        calls = list(ALL_CALLS)
        answers(calls)
        self.assertEqual(calls, ALL_CALLS)

    def test_what_is_handed_in_is_never_changed_for_a_while(self):
        class Unchanging(list):
            def refuse(self, *anything):
                raise AssertionError("the list is changed")
            __setitem__ = __delitem__ = __iadd__ = __imul__ = refuse
            append = extend = insert = pop = remove = clear = reverse = sort = refuse
        self.assertEqual(answers(Unchanging(ALL_CALLS)), answers(ALL_CALLS))

    def test_nothing_is_kept(self):
        first = answers(ALL_CALLS)
        answers(lay([*world(2, [([0, 0], [9, 9])]), least([0, 0], [9, 9])]))
        self.assertEqual(answers(ALL_CALLS), first)
        self.assertEqual(answers(lay([begin(2), do([9, 9], 0), step([0, 0], [0, 0])])), [1, 0, 1, -2, 1, 0])

    def test_what_is_given_back_is_the_askers_own(self):
        first = answers(ALL_CALLS)
        kept = list(first)
        first.clear()
        self.assertEqual(answers(ALL_CALLS), kept)

    def test_plain_whole_numbers_in_a_plain_list(self):
        found = answers(ALL_CALLS)
        self.assertIs(type(found), list)
        self.assertEqual({type(number) for number in found}, {int})

    def test_three_hundred_calls(self):
        calls = [begin(1), step([0], [1])] + [way([0], [number % 65]) for number in range(298)]
        awaited = [1, 0, 1, 0]
        for number in range(298):
            awaited += [number % 65 + 1, number % 65] + [0] * (number % 65)
        self.assertEqual(answers(lay(calls)), awaited)

    def test_three_hundred_of_all_calls(self):
        nine = [begin(2), step([1, 0], [0, 1]), do([2, 0], 0), least([3, 0], [0, 2]), way([3, 0], [0, 2]),
                many([3, 0]), stuck([3, 0]), always([3, 0], [0, 3]), keeps([5, 5])]
        nine_answers = [1, 0, 1, 0, 3, 0, 1, 1, 1, 2, 3, 2, 0, 0, 1, 4, 3, 1, 0, 3, 1, 1, 1, 1]
        calls = lay(nine * 33 + nine[:3])
        awaited = nine_answers * 33 + nine_answers[:8]
        self.assertEqual(answers(calls), awaited)
        self.assertEqual(calls, lay(nine * 33 + nine[:3]))
        self.assertEqual(answers(calls), awaited)

    def test_a_beginning_in_between(self):
        calls = [begin(1), step([0], [1]), many([0]), begin(2), many([0]), many([0, 0]), stuck([3, 4]), keeps([9, -9]),
                 always([3, 4], [3, 4]), begin(0), step([1, 0], [0, 1]), many([3, 4]), begin(1), many([3])]
        self.assertEqual(answers(lay(calls)), [
            1, 0, 1, 0, 1, -6, 1, 0, 1, -22, 1, 1, 3, 1, 3, 4, 1, 1, 1, 1, 1, -22, 1, 0, 1, 4, 1, 0, 1, 1,
        ])

    def test_three_hundred_beginnings(self):
        self.assertEqual(answers([0, 0] * 299 + [0, 6]), [1, -22] * 299 + [1, 0])

    def test_the_longest_rows(self):
        calls = [begin(6)] + [least([4294967295] * 10, [4294967295] * 10), step([1] * 10, [1] * 10)] * 149
        self.assertEqual(answers(lay(calls)), [1, 0] + [1, -22] * 298)
        wrong = [many([4294967295] * 10), stuck([1] * 10), always([1] * 10, [1] * 10), keeps([-2147483648] * 10)]
        self.assertEqual(answers(lay([begin(6)] + wrong * 74)), [1, 0] + [1, -22] * 296)


if __name__ == "__main__":
    unittest.main()
