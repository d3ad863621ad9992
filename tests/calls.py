"""Lays calls into one list, and takes the list of the answers apart again."""

from stockruns.states import answers

LARGEST = 4294967295


def row(numbers):
    return [len(numbers), *numbers]


def begin(stocks):
    return [0, stocks]


def step(takes, gives):
    return [1, *row(takes), *row(gives)]


def do(state, number):
    return [2, number, *row(state)]


def least(state, wanted):
    return [3, *row(state), *row(wanted)]


def way(state, wanted):
    return [4, *row(state), *row(wanted)]


def lay(calls):
    return [number for call in calls for number in call]


def ask(*calls):
    """A list for each call: what is answered, without its count."""
    laid = answers(lay(calls))
    parts = []
    place = 0
    while place < len(laid):
        count = laid[place]
        part = laid[place + 1:place + 1 + count]
        if count < 1 or len(part) != count:
            raise AssertionError(f"a wrong count at {place} of {laid}")
        parts.append(part)
        place += 1 + count
    if len(parts) != len(calls):
        raise AssertionError(f"{len(calls)} calls, but {len(parts)} answers")
    return parts


def ask_last(*calls):
    return ask(*calls)[-1]


def world(stocks, steps):
    """The calls that make so many stocks and these steps."""
    return [begin(stocks)] + [step(takes, gives) for takes, gives in steps]
