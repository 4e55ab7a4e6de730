"""The limits of the document."""

MAX_ARITY = 5
MAX_TOKENS = 24
MAX_LENGTH = 10 ** 12
MAX_RUNS = 12
MAX_COUNTED = 10
MAX_EDITS = 60
BATCH = 20
