"""The numbers that stand for refusals; 0 stands for none."""

NOT_REFUSED = 0
OUT_OF_RANGE = -1
WRONG_FORM = -2
WRONG_USE = -3
NO_POINT = -4
FAULT_AT_POINT = -5
TOO_HEAVY = -6
TOO_MANY_LINES = -7
NOT_ONE_INPUT = -8
