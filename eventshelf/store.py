"""What a store holds: its settings, the items, the members and the events."""


class Item:
    def __init__(self, creator, price, day, categories):
        self.creator = creator
        self.price = price
        self.day = day
        self.categories = categories
        self.withdrawn = 0


class Event:
    def __init__(self, time, member, item, kind, value):
        self.time = time
        self.member = member
        self.item = item
        self.kind = kind
        self.value = value


class Store:
    def __init__(self, retention, gap, weights):
        self.retention = retention
        self.gap = gap
        self.weights = weights
        # An item's number is its place on the shelf: items are never removed.
        self.shelf = []
        # The day of joining by the member's number; a dict keeps the order of adding, which answers depend on.
        self.members = {}
        # In the order of recording, so by time, too.
        self.events = []


def item_exists(store, item):
    return item < len(store.shelf)


def member_exists(store, member):
    return member in store.members


def is_available(store, item):
    return store.shelf[item].withdrawn == 0


# Everything about an item, as it is answered and as it is digested.
def item_data(store, item):
    shown = store.shelf[item]
    return [shown.creator, shown.price, shown.day, shown.withdrawn, len(shown.categories)] + shown.categories


def events_between(store, low, high):
    return [event for event in store.events if event.time >= low and event.time < high]


def events_of(store, member):
    return [event for event in store.events if event.member == member]


def last_time(store):
    return store.events[len(store.events) - 1].time if len(store.events) > 0 else 0


# The different items, in increasing order.
def items_met(events):
    return sorted(set([event.item for event in events]))
