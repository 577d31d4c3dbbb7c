"""The calls about members: adding, deleting and showing them."""

from eventshelf.limits import MAX_DAY, MAX_MEMBER, MAX_MEMBERS
from eventshelf.refusals import not_found, number_taken, outside_limits, too_many
from eventshelf.store import events_of, items_met, member_exists


def add_member(store, member, day):
    if member > MAX_MEMBER or day > MAX_DAY:
        return outside_limits()
    if member_exists(store, member):
        return number_taken()
    if len(store.members) >= MAX_MEMBERS:
        return too_many()
    store.members[member] = day
    return [len(store.members)]


def delete_member(store, member):
    if not member_exists(store, member):
        return not_found()
    kept = [event for event in store.events if event.member != member]
    removed_count = len(store.events) - len(kept)
    store.members.pop(member)
    store.events = kept
    return [removed_count]


def member_info(store, member):
    if not member_exists(store, member):
        return not_found()
    own = events_of(store, member)
    # One more than the time, so that an event at time 0 differs from none.
    last_time = own[len(own) - 1].time + 1 if len(own) > 0 else 0
    return [store.members[member], len(own), len(items_met(own)), last_time]
