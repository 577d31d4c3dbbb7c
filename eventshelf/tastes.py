"""The calls about the items that members met: history, unseen items, opinions and common members."""

from eventshelf.limits import DISLIKE, LIKE, PURCHASE, RATING
from eventshelf.refusals import not_found
from eventshelf.store import events_of, is_available, item_exists, items_met, member_exists

LIKED = 10
DISLIKED = 1
UNDECIDED = 5


def history(store, member, count):
    if not member_exists(store, member):
        return not_found()
    met = []
    for event in reversed(events_of(store, member)):
        if event.item not in met:
            met.append(event.item)
    listed = met[:count]
    return [len(listed)] + listed


def unseen(store, member):
    if not member_exists(store, member):
        return not_found()
    met = items_met(events_of(store, member))
    listed = [item for item in range(len(store.shelf)) if is_available(store, item) and item not in met]
    return [len(listed)] + listed


# The events are those of one member with one item.
def opinion(events):
    rated = None
    leaning = UNDECIDED
    for event in events:
        if event.kind == RATING:
            rated = event.value
        if event.kind == LIKE or event.kind == PURCHASE:
            leaning = LIKED
        if event.kind == DISLIKE:
            leaning = DISLIKED
    return leaning if rated is None else rated


def opinions(store, member):
    if not member_exists(store, member):
        return not_found()
    own = events_of(store, member)
    met = items_met(own)
    told = [len(met)]
    for item in met:
        told.extend([item, opinion([event for event in own if event.item == item])])
    return told


def has_met(store, member, item):
    return item in items_met(events_of(store, member))


def common_members(store, first, second):
    if not item_exists(store, first) or not item_exists(store, second):
        return not_found()
    listed = [member for member in store.members
              if has_met(store, member, first) and has_met(store, member, second)]
    return [len(listed)] + listed
