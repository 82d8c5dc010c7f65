"""The limits of heights, rings and boards."""

LIMIT = 10 ** 9
MAX_LENGTH = 24
MAX_EDITS = 60
BATCH = 20
