"""The limits of the arguments, and of how much a store holds.

No number below 0 is handed in, so a range that begins with 0 needs a check of its upper end alone.
"""

MAX_RETENTION = 10000
MAX_GAP = 10000
KIND_COUNT = 6
MAX_WEIGHT = 1000
MAX_CREATOR = 1000
MAX_PRICE = 1000000
MAX_DAY = 100000
CATEGORY_COUNT = 32
MAX_CATEGORIES_OF_ITEM = 4
MAX_MEMBER = 1000000
MAX_TIME = 100000000
MAX_FLAG = 1
VIEW = 0
LIKE = 1
DISLIKE = 2
RATING = 3
PURCHASE = 4
MAX_RATING = 10
MAX_ITEMS = 40
MAX_MEMBERS = 40
MAX_EVENTS = 200
MAX_STEPS = 6


def weights_fit(weights):
    return len(weights) == KIND_COUNT and all([weight <= MAX_WEIGHT for weight in weights])


def categories_fit(categories):
    if len(categories) > MAX_CATEGORIES_OF_ITEM:
        return False
    for place in range(len(categories)):
        if categories[place] >= CATEGORY_COUNT:
            return False
        if place > 0 and categories[place - 1] >= categories[place]:
            return False
    return True


def value_fits(kind, value):
    if kind >= KIND_COUNT:
        return False
    if kind == RATING:
        return value >= 1 and value <= MAX_RATING
    return value == 0


# A span is a half-life or a window: both have the same limits.
def time_and_span_fit(time, span):
    return time <= MAX_TIME and span >= 1


def kinds_fit(kinds):
    return len(kinds) >= 1 and len(kinds) <= MAX_STEPS and all([kind < KIND_COUNT for kind in kinds])
