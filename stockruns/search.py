"""All states that are come to, looked for from the first one on.

look_for_all answers two things: how many states there are, or a refusal; and the list of the states, in the order in
which they were found.
"""

from stockruns.refusals import ENDLESS, TOO_MANY
from stockruns.steps import has

MOST_STATES = 300


def has_more_than_one_before(state, before, found_by):
    # A state that wasn't found yet is none of those before it: to have all that one of them has is to have more.
    while before is not None:
        if has(state, before):
            return True
        before = found_by[before]
    return False


def look_for_all(first, steps):
    found = [first]
    found_by = {first: None}
    place = 0
    while place < len(found):
        state = found[place]
        for step in steps:
            if not step.can_be_done(state):
                continue
            behind = step.state_behind(state)
            if behind in found_by:
                continue
            if has_more_than_one_before(behind, state, found_by):
                return (ENDLESS, found)
            found.append(behind)
            found_by[behind] = state
        # Not before the steps are through: a later one of them may still show that there are endlessly many.
        if len(found) > MOST_STATES:
            return (TOO_MANY, found)
        place = place + 1
    return (len(found), found)


def stuck_among(states, steps):
    stuck = []
    for state in states:
        if not any([step.can_be_done(state) for step in steps]):
            stuck.append(state)
    return stuck
