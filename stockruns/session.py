"""The object that the calls are called on.

Each call answers a list: the number that's answered first, then what else is answered. A refusal is one number alone,
and changes nothing.
"""

from stockruns.refusals import ABOVE_THE_MOST, CANNOT_BE_DONE, NO_SUCH_STEP, WRONG_INPUT
from stockruns.rounds import earliest_way, has_one_of, look_all_the_way_back, look_back
from stockruns.search import look_for_all, stuck_among
from stockruns.steps import Step

MOST_STOCKS = 6
MOST_STEPS = 12
MOST_OF_A_STEP = 9
MOST_OF_A_STATE = 1000000
MOST_OF_A_WEIGHT = 1000
LONGEST_WAY = 64


class Session:
    def __init__(self):
        self.stocks = 0
        self.steps = []

    def fits(self, row, most):
        return len(row) == self.stocks and max(row) <= most

    def begin(self, stocks):
        if stocks < 1 or stocks > MOST_STOCKS:
            return [WRONG_INPUT]
        self.stocks = stocks
        self.steps = []
        return [0]

    def add_step(self, takes, gives):
        if not self.fits(takes, MOST_OF_A_STEP) or not self.fits(gives, MOST_OF_A_STEP):
            return [WRONG_INPUT]
        number = len(self.steps)
        if number >= MOST_STEPS:
            return [ABOVE_THE_MOST]
        self.steps.append(Step(takes, gives))
        return [number]

    def do_step(self, number, state):
        if not self.fits(state, MOST_OF_A_STATE):
            return [WRONG_INPUT]
        if number >= len(self.steps):
            return [NO_SUCH_STEP]
        step = self.steps[number]
        if not step.can_be_done(state):
            return [CANNOT_BE_DONE]
        return [0] + list(step.state_behind(state))

    def least(self, first, wanted):
        if not self.fits(first, MOST_OF_A_STATE) or not self.fits(wanted, MOST_OF_A_STATE):
            return [WRONG_INPUT]
        found = look_back(tuple(first), tuple(wanted), self.steps)
        return [found[0]]

    def way(self, first, wanted):
        if not self.fits(first, MOST_OF_A_STATE) or not self.fits(wanted, MOST_OF_A_STATE):
            return [WRONG_INPUT]
        found = look_back(tuple(first), tuple(wanted), self.steps)
        length = found[0]
        if length < 0:
            return [length]
        if length > LONGEST_WAY:
            return [ABOVE_THE_MOST]
        return [length] + earliest_way(tuple(first), found[1], self.steps)

    def many(self, first):
        if not self.fits(first, MOST_OF_A_STATE):
            return [WRONG_INPUT]
        found = look_for_all(tuple(first), self.steps)
        return [found[0]]

    def stuck(self, first):
        if not self.fits(first, MOST_OF_A_STATE):
            return [WRONG_INPUT]
        found = look_for_all(tuple(first), self.steps)
        if found[0] < 0:
            return [found[0]]
        stuck = stuck_among(found[1], self.steps)
        if len(stuck) == 0:
            return [0]
        return [len(stuck)] + list(stuck[0])

    def always(self, first, wanted):
        if not self.fits(first, MOST_OF_A_STATE) or not self.fits(wanted, MOST_OF_A_STATE):
            return [WRONG_INPUT]
        found = look_for_all(tuple(first), self.steps)
        if found[0] < 0:
            return [found[0]]
        back = look_all_the_way_back(tuple(wanted), self.steps)
        if back[0] < 0:
            return [back[0]]
        for state in found[1]:
            if not has_one_of(state, back[1]):
                return [0]
        return [1]

    def keeps(self, weights):
        if not self.fits(weights, MOST_OF_A_WEIGHT) or min(weights) < -MOST_OF_A_WEIGHT:
            return [WRONG_INPUT]
        for step in self.steps:
            if not step.keeps_sum(weights):
                return [0]
        return [1]
