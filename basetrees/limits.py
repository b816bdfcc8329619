"""The greatest numbers that the program allows."""

MOST_COPIES = 40
MOST_TOLD = 12
# Ten to the power of twelve.
MOST_WEIGHT = 1_000_000_000_000
MOST_WALKED = 2000
MOST_OFFERS = 8
MOST_FREED = 8
