"""What the tests by trying have in common: states told in the plainest way, and some stocks and steps by chance."""


def has(state, wanted):
    return all(there >= asked for there, asked in zip(state, wanted))


def need_of_run(run, wanted):
    """The least state from which the run can be done and comes to what's wanted."""
    need = [0] * len(wanted)
    gained = [0] * len(wanted)
    for takes, gives in run:
        need = [max(much, taken - more) for much, taken, more in zip(need, takes, gained)]
        gained = [more - taken + given for more, taken, given in zip(gained, takes, gives)]
    return tuple(max(much, asked - more) for much, asked, more in zip(need, wanted, gained))


def least_of(states):
    return {state for state in states if not any(other != state and has(state, other) for other in states)}


def some_row(chance, stocks, most):
    return [chance.randint(1, most) if chance.random() < 0.5 else 0 for place in range(stocks)]


def some_world(chance):
    stocks = chance.randint(1, 4)
    steps = []
    for number in range(chance.randint(0, 4)):
        takes = some_row(chance, stocks, chance.choice((1, 2, 9)))
        gives = some_row(chance, stocks, chance.choice((1, 3, 9)))
        steps.append((takes, gives))
    return stocks, steps
