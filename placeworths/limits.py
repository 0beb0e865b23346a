"""The greatest sizes of what is given and told."""

MOST_PAIRS = 64
MOST_DRAWS = 6
MOST_PLACES = 24
MOST_ARROWS = 8
MOST_MOVES = 60
MOST_FILLINGS = 2000
MOST_ASKED = 200
