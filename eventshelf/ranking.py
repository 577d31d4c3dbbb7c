"""The calls about how well items are liked: ratings, popularity, the top items and the trending ones."""

from eventshelf.exact import lowest_terms
from eventshelf.limits import RATING, time_and_span_fit
from eventshelf.refusals import not_found, not_possible, outside_limits
from eventshelf.store import events_between, is_available, item_exists

MAX_HALVINGS = 40


def last_ratings(store, item):
    value_by_member = {}
    for event in store.events:
        if event.item == item and event.kind == RATING:
            value_by_member[event.member] = event.value
    return list(value_by_member.values())


def ratings(store, item):
    if not item_exists(store, item):
        return not_found()
    given = last_ratings(store, item)
    if len(given) == 0:
        return not_possible()
    count = len(given)
    total = sum(given)
    squares = sum([value * value for value in given])
    mean = lowest_terms(total, count)
    variance = lowest_terms(count * squares - total * total, count * count)
    return [count] + mean + variance


# Popularities times 2 ** 40 are whole, since no weight is halved more often; so they add up and compare exactly.
def scaled_popularity(store, item, time, half_life):
    total = 0
    for event in store.events:
        if event.item == item and event.time <= time:
            halvings = (time - event.time) // half_life
            if halvings <= MAX_HALVINGS:
                total += store.weights[event.kind] << (MAX_HALVINGS - halvings)
    return total


def popularity(store, item, time, half_life):
    if not item_exists(store, item):
        return not_found()
    if not time_and_span_fit(time, half_life):
        return outside_limits()
    return [0] + lowest_terms(scaled_popularity(store, item, time, half_life), 1 << MAX_HALVINGS)


# The items with the greatest scores, a score of 0 and withdrawn items left out.
def greatest(store, scores, count):
    listed = [item for item in range(len(scores)) if scores[item] > 0 and is_available(store, item)]
    return sorted(listed, key=lambda item: (-scores[item], item))[:count]


def top_items(store, time, half_life, count):
    if not time_and_span_fit(time, half_life):
        return outside_limits()
    scores = [scaled_popularity(store, item, time, half_life) for item in range(len(store.shelf))]
    top = greatest(store, scores, count)
    return [len(top)] + top


def weight_of_each(store, events):
    total = [0] * len(store.shelf)
    for event in events:
        total[event.item] += store.weights[event.kind]
    return total


# Growths times the product of all their denominators are whole, so they compare exactly.
def scaled_growths(last, earlier):
    common = 1
    for weight in earlier:
        common = common * (weight + 1)
    scores = []
    for item in range(len(last)):
        growth = (last[item] + 1) * common // (earlier[item] + 1)
        # An item of no late weight isn't listed, however it grew.
        scores.append(growth if last[item] > 0 else 0)
    return scores


def trending(store, time, window, count):
    if not time_and_span_fit(time, window):
        return outside_limits()
    begin = max(time - window, 0)
    earlier_begin = max(time - 2 * window, 0)
    last = weight_of_each(store, events_between(store, begin, time))
    earlier = weight_of_each(store, events_between(store, earlier_begin, begin))
    top = greatest(store, scaled_growths(last, earlier), count)
    return [len(top)] + top
