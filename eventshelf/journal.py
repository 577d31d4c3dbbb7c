"""The calls about events: recording, expiring, counting and weighing them."""

from eventshelf.limits import CATEGORY_COUNT, KIND_COUNT, MAX_EVENTS, MAX_TIME, PURCHASE, value_fits
from eventshelf.refusals import not_found, not_possible, outside_limits, too_many
from eventshelf.store import Event, events_between, events_of, item_exists, last_time, member_exists

MINUTES_OF_DAY = 1440


def time_follows(store, time):
    return time <= MAX_TIME and time >= last_time(store)


def record(store, time, member, item, kind, value):
    if not member_exists(store, member) or not item_exists(store, item):
        return not_found()
    if not time_follows(store, time) or not value_fits(kind, value):
        return outside_limits()
    if kind == PURCHASE and store.shelf[item].withdrawn == 1:
        return not_possible()
    if len(store.events) >= MAX_EVENTS:
        return too_many()
    store.events.append(Event(time, member, item, kind, value))
    return [len(store.events)]


def expire(store, time):
    if time > MAX_TIME:
        return outside_limits()
    # A retention of 0 keeps events for ever.
    if store.retention == 0:
        return [0]
    kept_for = store.retention * MINUTES_OF_DAY
    kept = [event for event in store.events if event.time + kept_for > time]
    removed_count = len(store.events) - len(kept)
    store.events = kept
    return [removed_count]


def kinds_told(events):
    tally = [0] * KIND_COUNT
    for event in events:
        tally[event.kind] += 1
    return [KIND_COUNT] + tally


def counts(store, item, low, high):
    if not item_exists(store, item):
        return not_found()
    return kinds_told([event for event in events_between(store, low, high) if event.item == item])


def by_creator(store, creator, low, high):
    inside = events_between(store, low, high)
    return kinds_told([event for event in inside if store.shelf[event.item].creator == creator])


def categories_told(store, events):
    tally = [0] * CATEGORY_COUNT
    for event in events:
        for category in store.shelf[event.item].categories:
            tally[category] += store.weights[event.kind]
    return [CATEGORY_COUNT] + tally


def categories(store, low, high):
    return categories_told(store, events_between(store, low, high))


def profile(store, member):
    if not member_exists(store, member):
        return not_found()
    return categories_told(store, events_of(store, member))


def split(store, time):
    before = [event.member for event in store.events if event.time < time]
    others = [event.member for event in store.events if event.time >= time]
    return [len(before), len(others), len(set(before) & set(others))]
