"""Points 3 and 4, and what holds (a, b, e), against all runs of a few steps, tried one by one.

What a run needs is told forward, from its first step to its last, so nothing of the program's own way back is used.
Points 5 to 7 are in test_all_by_trying.py.
"""

import itertools
import random
import unittest

from stockruns.states import answers
from tests.calls import ask, lay, least, way, world
from tests.trying import has, least_of, need_of_run, some_row, some_world


def least_states(steps, wanted, most):
    """The least states behind 0, 1 .. most rounds."""
    needs = set()
    rounds = []
    for length in range(most + 1):
        needs = least_of(needs | {need_of_run(run, wanted) for run in itertools.product(steps, repeat=length)})
        rounds.append(needs)
    return rounds


def least_by_trying(first, rounds):
    """What least answers, or None if these rounds don't tell it."""
    for length, states in enumerate(rounds):
        if len(states) > 60:
            return -75
        if any(has(first, state) for state in states):
            return length
        if length + 1 < len(rounds) and rounds[length + 1] == states:
            return -6
    return None


def can_be_done_to(run, steps, first, wanted):
    state = list(first)
    for number in run:
        takes, gives = steps[number]
        if not has(state, takes):
            return False
        state = [there - taken + given for there, taken, given in zip(state, takes, gives)]
    return has(state, wanted)


def way_by_trying(length, steps, first, wanted):
    for run in itertools.product(range(len(steps)), repeat=length):
        if can_be_done_to(run, steps, first, wanted):
            return [length, *run]
    raise AssertionError("there is no such run")


class ByTrying(unittest.TestCase):
    def test_some_worlds(self):
        chance = random.Random(20)
        told = {}
        for turn in range(400):
            stocks, steps = some_world(chance)
            wanted = some_row(chance, stocks, chance.choice((2, 5, 12)))
            rounds = least_states(steps, wanted, 4)
            for other in range(6):
                first = some_row(chance, stocks, chance.choice((1, 4, 12)))
                awaited = least_by_trying(first, rounds)
                if awaited is None:
                    continue
                told[awaited] = told.get(awaited, 0) + 1
                run = [awaited] if awaited < 0 else way_by_trying(awaited, steps, first, wanted)
                found = ask(*world(stocks, steps), least(first, wanted), way(first, wanted))
                self.assertEqual(found[-2:], [[awaited], run], (stocks, steps, first, wanted))
        for answer in (-6, 0, 1, 2, 3, 4):
            self.assertGreater(told.get(answer, 0), 20, told)

    def test_many_least_states(self):
        chance = random.Random(60)
        told = {}
        for turn in range(40):
            stocks = 6
            steps = [(some_row(chance, stocks, 1), some_row(chance, stocks, 2)) for number in range(6)]
            wanted = [chance.randint(0, 7) for place in range(stocks)]
            rounds = least_states(steps, wanted, 4)
            for other in range(10):
                first = [chance.randint(0, 9) for place in range(stocks)]
                awaited = least_by_trying(first, rounds)
                if awaited is None:
                    continue
                told[awaited] = told.get(awaited, 0) + 1
                found = ask(*world(stocks, steps), least(first, wanted))
                self.assertEqual(found[-1], [awaited], (steps, first, wanted))
        self.assertGreater(told.get(-75, 0), 20, told)
        self.assertGreater(told.get(2, 0), 20, told)

    def test_more_of_each_is_no_worse(self):
        chance = random.Random(7)
        better = 0
        for turn in range(300):
            stocks, steps = some_world(chance)
            wanted = some_row(chance, stocks, 12)
            first = some_row(chance, stocks, 6)
            more = [there + chance.randint(0, 3) for there in first]
            found = ask(*world(stocks, steps), least(first, wanted), least(more, wanted))
            if found[-2][0] >= 0:
                self.assertGreaterEqual(found[-1][0], 0)
                self.assertLessEqual(found[-1][0], found[-2][0])
                better += found[-1][0] < found[-2][0]
        self.assertGreater(better, 20)

    def test_the_way_is_as_long_as_least_tells(self):
        chance = random.Random(64)
        long = 0
        for turn in range(300):
            stocks, steps = some_world(chance)
            first = some_row(chance, stocks, 9)
            wanted = some_row(chance, stocks, 90)
            found = ask(*world(stocks, steps), least(first, wanted), way(first, wanted))
            length = found[-2][0]
            if 0 <= length <= 64:
                self.assertEqual(found[-1][0], length)
                self.assertEqual(len(found[-1]), length + 1)
                self.assertTrue(can_be_done_to(found[-1][1:], steps, first, wanted))
                long += length > 6
            else:
                self.assertEqual(found[-1], [length] if length < 0 else [-28])
        self.assertGreater(long, 20)

    def test_asked_twice(self):
        chance = random.Random(2)
        for turn in range(50):
            stocks, steps = some_world(chance)
            calls = lay([*world(stocks, steps), way(some_row(chance, stocks, 9), some_row(chance, stocks, 20))])
            self.assertEqual(answers(calls), answers(list(calls)))


if __name__ == "__main__":
    unittest.main()
