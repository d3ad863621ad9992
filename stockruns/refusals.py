"""The numbers by which a call is refused."""

NO_SUCH_STEP = -2
NEVER = -6
ENDLESS = -6
CANNOT_BE_DONE = -16
WRONG_INPUT = -22
ABOVE_THE_MOST = -28
TOO_MANY = -75
