"""Lays calls into one list, and takes the list of the answers apart again."""

from stockruns.states import answers

LARGEST = 4294967295


def row(numbers):
    return [len(numbers), *numbers]


def begin(stocks):
    return [0, stocks]


def step(takes, gives):
    return [1, *row(takes), *row(gives)]


def do(state, number):
    return [2, number, *row(state)]


def least(state, wanted):
    return [3, *row(state), *row(wanted)]


def way(state, wanted):
    return [4, *row(state), *row(wanted)]


def many(state):
    return [5, *row(state)]


def stuck(state):
    return [6, *row(state)]


def always(state, wanted):
    return [7, *row(state), *row(wanted)]


def keeps(weights):
    return [8, *row(weights)]


def lay(calls):
    return [number for call in calls for number in call]


def ask(*calls):
    """A list for each call: what is answered, without its count."""
    laid = answers(lay(calls))
    parts = []
    place = 0
    while place < len(laid):
        count = laid[place]
        part = laid[place + 1:place + 1 + count]
        if count < 1 or len(part) != count:
            raise AssertionError(f"a wrong count at {place} of {laid}")
        parts.append(part)
        place += 1 + count
    if len(parts) != len(calls):
        raise AssertionError(f"{len(calls)} calls, but {len(parts)} answers")
    return parts


def ask_last(*calls):
    return ask(*calls)[-1]


def world(stocks, steps):
    """The calls that make so many stocks and these steps, none of which may be one that is refused."""
    for numbers in (part for one in steps for part in one):
        if len(numbers) != stocks or max(numbers) > 9:
            raise AssertionError(f"no such step of {stocks} stocks: {numbers}")
    return [begin(stocks)] + [step(takes, gives) for takes, gives in steps]


def spread(much):
    """Four stocks: first to fourth, first to second to third; so much of the third comes to one more of the first."""
    steps = [
        ([1, 0, 0, 0], [0, 0, 0, 1]),
        ([0, 1, 0, 0], [0, 0, 1, 0]),
        ([1, 0, 0, 0], [0, 1, 0, 0]),
        ([0, 0, much, 0], [much + 1, 0, 0, 0]),
    ]
    return world(4, steps)
