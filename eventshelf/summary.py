"""The calls about the whole store: its digest and its status."""

from eventshelf.store import is_available, item_data, last_time

# The 64-bit FNV-1a hash.
HASH_START = 14695981039346656037
HASH_FACTOR = 1099511628211
HASH_RANGE = 18446744073709551616


def contents(store):
    held = [store.retention, store.gap] + store.weights
    held.append(len(store.shelf))
    for item in range(len(store.shelf)):
        held.extend(item_data(store, item))
    held.append(len(store.members))
    for member in store.members:
        held.extend([member, store.members[member]])
    held.append(len(store.events))
    for event in store.events:
        held.extend([event.time, event.member, event.item, event.kind, event.value])
    return held


def hashed(numbers):
    value = HASH_START
    for number in numbers:
        for shift in (0, 8, 16, 24):
            byte = (number >> shift) & 255
            value = ((value ^ byte) * HASH_FACTOR) % HASH_RANGE
    return value


def digest(store):
    value = hashed(contents(store))
    return [value >> 32, value & 4294967295]


def status(store):
    available = [item for item in range(len(store.shelf)) if is_available(store, item)]
    return [len(store.shelf), len(available), len(store.members), len(store.events), last_time(store)]
