"""The interface: the calls on one object, laid into one list, and their answers.

A call is its number, then its whole numbers, then each of its rows with how many numbers it has before it. Each answer
is laid into the list that is given back with how many numbers it has before it.
"""

from stockruns.session import Session


class Reader:
    def __init__(self, numbers):
        self.numbers = numbers
        self.place = 0

    def is_through(self):
        return self.place >= len(self.numbers)

    def read_number(self):
        number = self.numbers[self.place]
        self.place = self.place + 1
        return number

    def read_row(self):
        length = self.read_number()
        # A slice is a copy: a step keeps it, and what was handed in is kept nowhere.
        row = self.numbers[self.place:self.place + length]
        self.place = self.place + length
        return row


def answer_begin(session, reader):
    stocks = reader.read_number()
    return session.begin(stocks)


def answer_step(session, reader):
    takes = reader.read_row()
    gives = reader.read_row()
    return session.add_step(takes, gives)


def answer_do(session, reader):
    number = reader.read_number()
    state = reader.read_row()
    return session.do_step(number, state)


def answer_least(session, reader):
    first = reader.read_row()
    wanted = reader.read_row()
    return session.least(first, wanted)


def answer_way(session, reader):
    first = reader.read_row()
    wanted = reader.read_row()
    return session.way(first, wanted)


def answer_many(session, reader):
    first = reader.read_row()
    return session.many(first)


def answer_stuck(session, reader):
    first = reader.read_row()
    return session.stuck(first)


def answer_always(session, reader):
    first = reader.read_row()
    wanted = reader.read_row()
    return session.always(first, wanted)


def answer_keeps(session, reader):
    weights = reader.read_row()
    return session.keeps(weights)


# In this order, because a call's number is its place here.
CALLS = (
    answer_begin,
    answer_step,
    answer_do,
    answer_least,
    answer_way,
    answer_many,
    answer_stuck,
    answer_always,
    answer_keeps,
)


def answers(calls):
    session = Session()
    reader = Reader(calls)
    laid = []
    while not reader.is_through():
        answer_call = CALLS[reader.read_number()]
        answer = answer_call(session, reader)
        laid.append(len(answer))
        laid.extend(answer)
    return laid
