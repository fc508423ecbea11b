"""The bounds of what the package takes."""

# Of a game.
MAX_FIELDS = 4
MAX_SIZE = 6
MAX_WORLDS = 24
MAX_KEYS = 3
MAX_DEEP = 3
MAX_NOTS = 2
MAX_PLACES = 16
MAX_NEST = 3

# Of what is handed in with a game.
MAX_ROW = 400
MAX_DEPTH = 60
MAX_COST = 99

# Of a bench.
MAX_EDITS = 60
BATCH = 20
