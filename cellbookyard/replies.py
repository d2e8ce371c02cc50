"""The first numbers of answers: what is done, and the refusals."""

DONE = 0
OUT_OF_BOUNDS = -1
UNFIT = -2
TOO_MUCH = -3
NO_WORLD = -4
NONE_FOUND = -5
