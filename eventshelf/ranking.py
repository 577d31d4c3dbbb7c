"""The calls about how well items are liked: ratings, popularity and the top items."""

from eventshelf.exact import lowest_terms
from eventshelf.limits import RATING, time_and_half_life_fit
from eventshelf.refusals import not_found, not_possible, outside_limits
from eventshelf.store import item_exists

MAX_HALVINGS = 40


def last_ratings(store, item):
    value_by_member = {}
    for event in store.events:
        if event.item == item and event.kind == RATING:
            value_by_member[event.member] = event.value
    return list(value_by_member.values())


def ratings(store, item):
    if not item_exists(store, item):
        return not_found()
    given = last_ratings(store, item)
    if len(given) == 0:
        return not_possible()
    count = len(given)
    total = sum(given)
    squares = sum([value * value for value in given])
    mean = lowest_terms(total, count)
    variance = lowest_terms(count * squares - total * total, count * count)
    return [count] + mean + variance


# Popularities times 2 ** 40 are whole, since no weight is halved more often; so they add up and compare exactly.
def scaled_popularity(store, item, time, half_life):
    total = 0
    for event in store.events:
        if event.item == item and event.time <= time:
            halvings = (time - event.time) // half_life
            if halvings <= MAX_HALVINGS:
                total += store.weights[event.kind] << (MAX_HALVINGS - halvings)
    return total


def popularity(store, item, time, half_life):
    if not item_exists(store, item):
        return not_found()
    if not time_and_half_life_fit(time, half_life):
        return outside_limits()
    return [0] + lowest_terms(scaled_popularity(store, item, time, half_life), 1 << MAX_HALVINGS)


def top_items(store, time, half_life, count):
    if not time_and_half_life_fit(time, half_life):
        return outside_limits()
    scores = [scaled_popularity(store, item, time, half_life) for item in range(len(store.shelf))]
    listed = [item for item in range(len(scores)) if scores[item] > 0 and store.shelf[item].withdrawn == 0]
    top = sorted(listed, key=lambda item: (-scores[item], item))[:count]
    return [len(top)] + top
