"""The calls about items: adding, changing and showing them."""

from eventshelf.limits import MAX_CREATOR, MAX_DAY, MAX_FLAG, MAX_ITEMS, MAX_PRICE, categories_fit
from eventshelf.refusals import not_found, outside_limits, too_many
from eventshelf.store import Item, item_data, item_exists


def add_item(store, creator, price, day, categories):
    if creator > MAX_CREATOR or price > MAX_PRICE or day > MAX_DAY or not categories_fit(categories):
        return outside_limits()
    if len(store.shelf) >= MAX_ITEMS:
        return too_many()
    store.shelf.append(Item(creator, price, day, categories))
    return [len(store.shelf) - 1]


def set_price(store, item, price):
    if not item_exists(store, item):
        return not_found()
    if price > MAX_PRICE:
        return outside_limits()
    changed = store.shelf[item]
    old_price = changed.price
    changed.price = price
    return [old_price]


def set_withdrawn(store, item, flag):
    if not item_exists(store, item):
        return not_found()
    if flag > MAX_FLAG:
        return outside_limits()
    changed = store.shelf[item]
    old_flag = changed.withdrawn
    changed.withdrawn = flag
    return [old_flag]


def item_info(store, item):
    if not item_exists(store, item):
        return not_found()
    return item_data(store, item)
