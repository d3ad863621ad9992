"""Points 5 to 7, and what holds (c, d, e), against all states looked for in two other ways.

look_with_rows goes by the document's words, but each state that waits keeps the whole row of those by which it was
found. come_to_by_heaping knows no order and nothing of endlessness: it only heaps up states.
"""

import collections
import random
import unittest

from tests.calls import always, ask, do, keeps, many, stuck, world
from tests.trying import has, least_of, need_of_run, some_row, some_world

MOST_OF_A_HEAP = 1500


def states_behind(state, steps):
    doable = [(takes, gives) for takes, gives in steps if has(state, takes)]
    return [tuple(there - taken + given for there, taken, given in zip(state, *step)) for step in doable]


def look_with_rows(first, steps):
    """-6, -75, or the list of all states in the order in which they were found."""
    found = [first]
    waiting = collections.deque([(first,)])
    while waiting:
        row = waiting.popleft()
        for state in states_behind(row[-1], steps):
            if state in found:
                continue
            if any(has(state, other) and state != other for other in row):
                return -6
            found.append(state)
            waiting.append((*row, state))
        if len(found) > 300:
            return -75
    return found


def come_to_by_heaping(first, steps):
    """All states, or more than MOST_OF_A_HEAP of them if there are so many."""
    heap = {first}
    last = [first]
    while last and len(heap) <= MOST_OF_A_HEAP:
        for state in states_behind(last.pop(), steps):
            if state not in heap:
                heap.add(state)
                last.append(state)
    return heap


def rounds_are_refused(steps, wanted):
    """Whether there are too many least states or too many rounds, by need_of_run of one step at a time."""
    least = {tuple(wanted)}
    for length in range(201):
        if len(least) > 60:
            return True
        more = least_of(least | {need_of_run([step], state) for state in least for step in steps})
        if more == least:
            return False
        least = more
    return True


def comes_there(heap, steps, wanted):
    """Those states of all from which a run comes to one that has what's wanted."""
    there = {state for state in heap if has(state, wanted)}
    size = -1
    while size < len(there):
        size = len(there)
        there |= {state for state in heap if any(behind in there for behind in states_behind(state, steps))}
    return there


def some_moves(chance):
    """Stocks and steps that mostly move so many of one stock to another."""
    stocks = chance.randint(2, 5)
    steps = []
    for number in range(chance.randint(1, 5)):
        takes = [0] * stocks
        gives = [0] * stocks
        much = chance.choice((1, 1, 2, 3))
        takes[chance.randrange(stocks)] += much
        gives[chance.randrange(stocks)] += much if chance.random() < 0.8 else chance.randint(0, 4)
        steps.append((takes, gives))
    return stocks, steps


def some_state(chance, stocks):
    return tuple(chance.choice((0, 0, 1, 2, 3, 5, 9, 20)) for place in range(stocks))


def some_turns(seed, turns):
    chance = random.Random(seed)
    for turn in range(turns):
        stocks, steps = some_moves(chance) if turn % 3 else some_world(chance)
        yield chance, stocks, steps, some_state(chance, stocks)


def told_stuck(states, steps):
    at_end = [state for state in states if not states_behind(state, steps)]
    return [len(at_end), *at_end[0]] if at_end else [0]


class AllByTrying(unittest.TestCase):
    def test_many_and_stuck(self):
        told = collections.Counter()
        for chance, stocks, steps, first in some_turns(300, 900):
            awaited = look_with_rows(first, steps)
            refused = isinstance(awaited, int)
            found = ask(*world(stocks, steps), many(first), stuck(first))
            self.assertEqual(found[-2], [awaited] if refused else [len(awaited)], (steps, first))
            self.assertEqual(found[-1], [awaited] if refused else told_stuck(awaited, steps), (steps, first))
            told[awaited if refused else "so many"] += 1
            told["stuck at several"] += found[-1][0] > 1
        for answer in (-6, -75, "so many", "stuck at several"):
            self.assertGreater(told[answer], 20, told)

    def test_just_so_many(self):
        for chance, stocks, steps, first in some_turns(6, 400):
            found = ask(*world(stocks, steps), many(first), stuck(first))
            count = found[-2][0]
            heap = come_to_by_heaping(first, steps)
            if count == -6:
                self.assertGreater(len(heap), MOST_OF_A_HEAP, (steps, first))
            elif count == -75:
                self.assertGreater(len(heap), 300, (steps, first))
            else:
                self.assertEqual(count, len(heap), (steps, first))
                at_end = {state for state in heap if not states_behind(state, steps)}
                self.assertEqual(found[-1][0], len(at_end), (steps, first))
                if at_end:
                    self.assertIn(tuple(found[-1][1:]), at_end, (steps, first))

    def test_always(self):
        told = collections.Counter()
        for chance, stocks, steps, first in some_turns(60, 900):
            wanted = some_row(chance, stocks, chance.choice((1, 3, 9, 70)))
            all_states = look_with_rows(first, steps)
            found = ask(*world(stocks, steps), always(first, wanted))[-1]
            if isinstance(all_states, int):
                awaited = all_states
            elif rounds_are_refused(steps, wanted):
                awaited = -75
                told["by the rounds"] += 1
            else:
                awaited = int(len(comes_there(all_states, steps, wanted)) == len(all_states))
            self.assertEqual(found, [awaited], (steps, first, wanted))
            told[awaited] += 1
        for answer in (-6, -75, 0, 1, "by the rounds"):
            self.assertGreater(told[answer], 20, told)

    def test_stuck_have_no_step(self):
        for chance, stocks, steps, first in some_turns(22, 300):
            calls = world(stocks, steps)
            at_end = ask(*calls, stuck(first))[-1]
            if at_end[0] > 0:
                tried = ask(*calls, *[do(at_end[1:], number) for number in range(len(steps))])
                self.assertEqual(tried[len(calls):], [[-16]] * len(steps), (steps, first))

    def test_what_is_told_to_stay_stays(self):
        told = collections.Counter()
        for chance, stocks, steps, first in some_turns(1000, 600):
            weights = [chance.choice((-2, -1, 0, 0, 1, 1, 2)) for place in range(stocks)]
            heap = list(come_to_by_heaping(first, steps))[:300]
            sums = {sum(much * weight for much, weight in zip(state, weights)) for state in heap}
            found = ask(*world(stocks, steps), keeps(weights))[-1]
            told[found[0], len(sums) > 1] += 1
            self.assertIn(found, [[0], [1]])
            if found == [1]:
                self.assertEqual(len(sums), 1, (steps, first, weights))
        self.assertGreater(told[1, False], 40, told)
        self.assertGreater(told[0, True], 40, told)

    def test_what_is_not_told_to_stay_does_not(self):
        for chance, stocks, steps, first in some_turns(1001, 300):
            weights = [chance.randint(-3, 3) for place in range(stocks)]
            found = ask(*world(stocks, steps), *[do([9] * stocks, number) for number in range(len(steps))],
                        keeps(weights))
            states = [[9] * stocks] + [part[1:] for part in found[1 + len(steps):-1]]
            sums = {sum(much * weight for much, weight in zip(state, weights)) for state in states}
            self.assertEqual(found[-1], [int(len(sums) == 1)], (steps, weights))

    def test_more_of_each_is_no_worse(self):
        for chance, stocks, steps, first in some_turns(75, 400):
            more = tuple(there + chance.randint(0, 2) for there in first)
            found = ask(*world(stocks, steps), many(first), many(more))
            if found[-2] == [-6]:
                self.assertIn(found[-1], [[-6], [-75]], (steps, first, more))
            elif found[-2][0] > 0 and found[-1][0] > 0:
                self.assertGreaterEqual(found[-1][0], found[-2][0], (steps, first, more))


if __name__ == "__main__":
    unittest.main()
