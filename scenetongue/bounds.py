"""How much a text, a picture and a log may hold, and the fraction nought."""

LINES = 80
SIGNS = 200
FIGURES = 6
BODIES = 40
THINGS = 8
LAMPS = 3
LOOKS = 4
LEAVES = 8
CELLS = 12
MIRRORS = 3
LOGGED = 60

NOUGHT = (0, 1)
