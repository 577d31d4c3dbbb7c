"""What the tests share: writing calls by name, handing them in, and reading the answers."""

from eventshelf.desk import answers

NAMES = ["create", "add_item", "set_price", "set_withdrawn", "add_member", "delete_member", "record", "expire",
         "item_info", "member_info", "counts", "ratings", "popularity", "top_items", "categories", "profile", "history",
         "sessions", "together", "common_members", "conversion", "funnel", "trending", "unseen", "opinions", "split",
         "by_creator", "digest", "status"]

WEIGHTS = [1, 3, 0, 2, 10, 0]
OVER = 4294967295

NO_STORE = [-11]
MISSING = [-2]
OUTSIDE = [-22]
TAKEN = [-17]
FULL = [-28]
IMPOSSIBLE = [-33]


def flat(values):
    """The numbers in values; a list among them stands for its numbers."""
    numbers = []
    for value in values:
        numbers.extend(value if isinstance(value, list) else [value])
    return numbers


def call(name, *values):
    numbers = flat(values)
    return [NAMES.index(name), len(numbers)] + numbers + [0]


def read(told):
    """The answers, a list each, of what was given back."""
    found = []
    position = 0
    while position < len(told):
        behind = position + 1 + told[position]
        assert behind <= len(told), "an answer is cut off"
        found.append(told[position + 1:behind])
        position = behind
    return found


def run(*calls):
    """The answers to the calls, each as a list; the list handed in has to be one the interface lets in."""
    assert 1 <= len(calls) <= 60, "a list has at most 60 calls"
    found = read(answers(flat(calls)))
    assert len(found) == len(calls), "one answer a call"
    return found


def last(*calls):
    return run(*calls)[-1]


def create(retention=0, gap=30, weights=None):
    return call("create", retention, gap, WEIGHTS if weights is None else weights)


def add_item(*categories):
    return call("add_item", 1, 900, 5, list(categories))


def small_store():
    """Three items (the last withdrawn), two members and five events, retention one day."""
    return [create(1), add_item(2, 7), add_item(7), add_item(), call("set_withdrawn", 2, 1),
            call("add_member", 50, 10), call("add_member", 20, 11),
            call("record", 100, 50, 0, 0, 0), call("record", 110, 50, 1, 1, 0), call("record", 120, 20, 0, 3, 8),
            call("record", 125, 50, 0, 4, 0), call("record", 125, 20, 1, 3, 2)]


def look():
    """Calls that show a small store by every question there is; the last ones change it."""
    shown = [call("digest"), call("status")]
    for item in range(3):
        shown += [call("item_info", item), call("counts", item, 0, OVER), call("ratings", item),
                  call("popularity", item, 400, 100), call("conversion", item)]
    for member in (50, 20):
        shown += [call("member_info", member), call("profile", member), call("history", member, OVER),
                  call("sessions", member), call("unseen", member), call("opinions", member)]
    shown += [call("together", 0, OVER), call("common_members", 0, 1), call("funnel", 0, OVER, [0, 4]),
              call("top_items", 400, 100, OVER), call("trending", 126, 20, OVER), call("categories", 0, OVER),
              call("split", 120), call("by_creator", 1, 0, OVER), call("item_info", 3), call("member_info", 7)]
    shown += [call("record", 125, 20, 0, 5, 0), call("add_item", 0, 0, 0), call("add_member", 7, 0),
              call("expire", 1560), call("delete_member", 20), call("delete_member", 50)]
    return shown
