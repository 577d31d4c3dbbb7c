"""The calls about what follows what: sessions, what happens in them, and funnels."""

from eventshelf.exact import lowest_terms
from eventshelf.limits import PURCHASE, VIEW, kinds_fit
from eventshelf.ranking import greatest
from eventshelf.refusals import not_found, not_possible, outside_limits
from eventshelf.store import events_between, events_of, item_exists, items_met, member_exists


# Each session is the list of its events.
def sessions_of(store, member):
    own = events_of(store, member)
    found = []
    for place in range(len(own)):
        if place == 0 or own[place].time - own[place - 1].time > store.gap:
            found.append([])
        found[len(found) - 1].append(own[place])
    return found


def all_sessions(store):
    found = []
    for member in store.members:
        found.extend(sessions_of(store, member))
    return found


def sessions(store, member):
    if not member_exists(store, member):
        return not_found()
    found = sessions_of(store, member)
    told = [len(found)]
    for session in found:
        end = session[len(session) - 1].time
        told.extend([session[0].time, end, len(session), len(items_met(session))])
    return told


def together(store, item, count):
    if not item_exists(store, item):
        return not_found()
    shared = [0] * len(store.shelf)
    for session in all_sessions(store):
        met = items_met(session)
        if item in met:
            for other in met:
                shared[other] += 1
    # An item is not together with itself.
    shared[item] = 0
    top = greatest(store, shared, count)
    told = [len(top)]
    for other in top:
        told.extend([other, shared[other]])
    return told


# How many of the kinds are met one behind another; the earliest event that will do is always taken.
def steps_reached(events, kinds):
    reached = 0
    for event in events:
        if reached < len(kinds) and event.kind == kinds[reached]:
            reached += 1
    return reached


def conversion(store, item):
    if not item_exists(store, item):
        return not_found()
    viewed = 0
    bought = 0
    for session in all_sessions(store):
        reached = steps_reached([event for event in session if event.item == item], [VIEW, PURCHASE])
        if reached >= 1:
            viewed += 1
        if reached >= 2:
            bought += 1
    if viewed == 0:
        return not_possible()
    return [0] + lowest_terms(bought, viewed)


# The events of each pair of a member and an item.
def events_of_pairs(events):
    found = {}
    for event in events:
        found.setdefault((event.member, event.item), []).append(event)
    return list(found.values())


def funnel(store, low, high, kinds):
    if not kinds_fit(kinds):
        return outside_limits()
    tally = [0] * len(kinds)
    for events in events_of_pairs(events_between(store, low, high)):
        for step in range(steps_reached(events, kinds)):
            tally[step] += 1
    return [len(kinds)] + tally
