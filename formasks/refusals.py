"""The numbers that stand for refusals."""

WRONG_NUMBERS = -1
NO_SUCH_QUESTION = -2
ALREADY_SO = -4
NO_ROOM = -5
NONE_LEFT = -6
NOT_DECIDED = -7
