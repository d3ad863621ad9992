"""Steps and states.

A state is a tuple: how much there is of each stock. It has what's wanted if it has as much of each, or more.

A step takes so many of each stock and gives so many. state_behind is where it comes to from a state where it can
be done; least_ahead is the least state where it can be done and behind which there's what's wanted. It keeps a sum if
what it gives weighs as much as what it takes.
"""


def has(state, wanted):
    for there, asked in zip(state, wanted):
        if there < asked:
            return False
    return True


def weigh(row, weights):
    return sum([much * weight for much, weight in zip(row, weights)])


class Step:
    def __init__(self, takes, gives):
        self.takes = takes
        self.gives = gives

    def can_be_done(self, state):
        return has(state, self.takes)

    def state_behind(self, state):
        return tuple([there - taken + given for there, taken, given in zip(state, self.takes, self.gives)])

    def least_ahead(self, wanted):
        return tuple([taken + max(0, asked - given) for asked, taken, given in zip(wanted, self.takes, self.gives)])

    def keeps_sum(self, weights):
        return weigh(self.gives, weights) == weigh(self.takes, weights)
