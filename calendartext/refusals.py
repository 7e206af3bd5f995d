"""The refusals that calls answer; what a text's faults are, reading says."""

WRONG = -1
NO_DATE = -3
FULL = -5
