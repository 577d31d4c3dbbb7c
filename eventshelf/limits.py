"""The limits of the arguments, and of how much a store holds.

No number below 0 is handed in, so a range that begins with 0 needs a check of its upper end alone.
"""

MAX_RETENTION = 10000
MAX_GAP = 10000
KIND_COUNT = 6
MAX_WEIGHT = 1000
MAX_CREATOR = 1000
MAX_PRICE = 1000000
MAX_DAY = 100000
CATEGORY_COUNT = 32
MAX_CATEGORIES_OF_ITEM = 4
MAX_MEMBER = 1000000
MAX_TIME = 100000000
MAX_FLAG = 1
PURCHASE = 4
RATING = 3
MAX_RATING = 10
MAX_ITEMS = 40
MAX_MEMBERS = 40
MAX_EVENTS = 200


def weights_fit(weights):
    return len(weights) == KIND_COUNT and all([weight <= MAX_WEIGHT for weight in weights])


def categories_fit(categories):
    if len(categories) > MAX_CATEGORIES_OF_ITEM:
        return False
    for place in range(len(categories)):
        if categories[place] >= CATEGORY_COUNT:
            return False
        if place > 0 and categories[place - 1] >= categories[place]:
            return False
    return True


def value_fits(kind, value):
    if kind >= KIND_COUNT:
        return False
    if kind == RATING:
        return value >= 1 and value <= MAX_RATING
    return value == 0


def time_and_half_life_fit(time, half_life):
    return time <= MAX_TIME and half_life >= 1
