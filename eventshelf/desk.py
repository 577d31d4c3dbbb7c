"""The desk: takes a list of calls on one new object, and gives back their answers."""

from eventshelf.catalog import add_item, item_info, set_price, set_withdrawn
from eventshelf.journal import by_creator, categories, counts, expire, profile, record, split
from eventshelf.limits import MAX_GAP, MAX_RETENTION, weights_fit
from eventshelf.membership import add_member, delete_member, member_info
from eventshelf.paths import conversion, funnel, sessions, together
from eventshelf.ranking import popularity, ratings, top_items, trending
from eventshelf.refusals import no_store, outside_limits
from eventshelf.store import Store
from eventshelf.summary import digest, status
from eventshelf.tastes import common_members, history, opinions, unseen


class Desk:
    def __init__(self):
        self.store = None


def create(desk, retention, gap, weights):
    if retention > MAX_RETENTION or gap > MAX_GAP or not weights_fit(weights):
        return outside_limits()
    desk.store = Store(retention, gap, weights)
    return [0]


def answer_change(store, number, numbers):
    if number == 1:
        return add_item(store, numbers[0], numbers[1], numbers[2], numbers[3:])
    if number == 2:
        return set_price(store, numbers[0], numbers[1])
    if number == 3:
        return set_withdrawn(store, numbers[0], numbers[1])
    if number == 4:
        return add_member(store, numbers[0], numbers[1])
    if number == 5:
        return delete_member(store, numbers[0])
    if number == 6:
        return record(store, numbers[0], numbers[1], numbers[2], numbers[3], numbers[4])
    return expire(store, numbers[0])


def answer_question(store, number, numbers):
    if number == 8:
        return item_info(store, numbers[0])
    if number == 9:
        return member_info(store, numbers[0])
    if number == 10:
        return counts(store, numbers[0], numbers[1], numbers[2])
    if number == 11:
        return ratings(store, numbers[0])
    if number == 12:
        return popularity(store, numbers[0], numbers[1], numbers[2])
    if number == 13:
        return top_items(store, numbers[0], numbers[1], numbers[2])
    return categories(store, numbers[0], numbers[1])


def answer_later_question(store, number, numbers):
    if number == 15:
        return profile(store, numbers[0])
    if number == 16:
        return history(store, numbers[0], numbers[1])
    if number == 17:
        return sessions(store, numbers[0])
    if number == 18:
        return together(store, numbers[0], numbers[1])
    if number == 19:
        return common_members(store, numbers[0], numbers[1])
    if number == 20:
        return conversion(store, numbers[0])
    return funnel(store, numbers[0], numbers[1], numbers[2:])


def answer_last_question(store, number, numbers):
    if number == 22:
        return trending(store, numbers[0], numbers[1], numbers[2])
    if number == 23:
        return unseen(store, numbers[0])
    if number == 24:
        return opinions(store, numbers[0])
    if number == 25:
        return split(store, numbers[0])
    if number == 26:
        return by_creator(store, numbers[0], numbers[1], numbers[2])
    if number == 27:
        return digest(store)
    return status(store)


def answer_call(desk, number, numbers):
    if number == 0:
        return create(desk, numbers[0], numbers[1], numbers[2:])
    if desk.store is None:
        return no_store()
    if number <= 7:
        return answer_change(desk.store, number, numbers)
    if number <= 14:
        return answer_question(desk.store, number, numbers)
    if number <= 21:
        return answer_later_question(desk.store, number, numbers)
    return answer_last_question(desk.store, number, numbers)


def answers(calls):
    desk = Desk()
    told = []
    position = 0
    while position < len(calls):
        first = position + 2
        behind = first + calls[position + 1]
        answer = answer_call(desk, calls[position], calls[first:behind])
        told.append(len(answer))
        told.extend(answer)
        # One number behind the call's own counts its lists; no call has any, so the next call follows.
        position = behind + 1
    return told
