"""The least states, round by round, back from what's wanted.

Behind k rounds they are the states from which a run of at most k steps comes to one that has what's wanted, without
those that have all that another one of them has, and more. So a state comes there by k steps at most just if it has
all that one of them has.

look_back answers two things: how many steps the shortest run has, or a refusal; and the list of the least states
behind 0, 1, 2 .. rounds, up to that many. earliest_way goes forward again through that list.

look_all_the_way_back answers two things: 0, or a refusal; and the least states behind the first round behind which one
more brings nothing new. So a run comes there, however long, just from the states that have all that one of them has.
"""

from stockruns.refusals import NEVER, TOO_MANY
from stockruns.steps import has

MOST_LEAST_STATES = 60
MOST_ROUNDS = 200


def has_one_of(state, least):
    for wanted in least:
        if has(state, wanted):
            return True
    return False


def least_of(states):
    least = []
    # Sorted, a state stands behind each one that it has all of: what is kept once never needs to go.
    for state in sorted(set(states)):
        if not has_one_of(state, least):
            least.append(state)
            # One above the most is enough to be refused, so the others are not looked for.
            if len(least) > MOST_LEAST_STATES:
                break
    return least


def one_more_round(least, fresh, steps):
    states = list(least)
    # What lies ahead of those that aren't fresh was looked for in the round behind which they were.
    for state in fresh:
        for step in steps:
            ahead = step.least_ahead(state)
            # Most steps are no help; to drop these here is far quicker than to compare them with all others.
            if not has(ahead, state):
                states.append(ahead)
    return least_of(states)


class Rounds:
    def __init__(self, wanted, steps):
        self.steps = steps
        self.gone = [[wanted]]
        self.fresh = [wanted]

    def go_on(self):
        last = self.gone[-1]
        least = one_more_round(last, self.fresh, self.steps)
        self.fresh = [state for state in least if state not in last]
        self.gone.append(least)

    def brought_nothing_new(self):
        return len(self.fresh) == 0

    def are_too_many(self):
        # The first of them are those behind no round at all.
        return len(self.gone[-1]) > MOST_LEAST_STATES or len(self.gone) - 1 > MOST_ROUNDS


def look_back(first, wanted, steps):
    rounds = Rounds(wanted, steps)
    # Before the run is looked at: it's refused too if the very round that finds it has more than the most.
    while not rounds.are_too_many():
        if has_one_of(first, rounds.fresh):
            return (len(rounds.gone) - 1, rounds.gone)
        rounds.go_on()
        if rounds.brought_nothing_new():
            return (NEVER, rounds.gone)
    return (TOO_MANY, rounds.gone)


def look_all_the_way_back(wanted, steps):
    rounds = Rounds(wanted, steps)
    while not rounds.are_too_many():
        rounds.go_on()
        if rounds.brought_nothing_new():
            return (0, rounds.gone[-1])
    return (TOO_MANY, rounds.gone[-1])


def leads_into(step, state, least):
    return step.can_be_done(state) and has_one_of(step.state_behind(state), least)


def earliest_way(first, rounds, steps):
    way = []
    state = first
    # The last round is where the run begins; each step must come to the states of one round less.
    for least in reversed(rounds[:-1]):
        fitting = [number for number, step in enumerate(steps) if leads_into(step, state, least)]
        way.append(fitting[0])
        state = steps[fitting[0]].state_behind(state)
    return way
