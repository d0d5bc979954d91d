"""The greatest numbers that this package works with."""

MOST_MINDS = 6
MOST_WAYS = 6
MOST_WEIGHT = 10 ** 9
MOST_DAYS = 12
MOST_WORDS = 1300
MOST_OFFERS = 6
MOST_DOUBTS = 6
