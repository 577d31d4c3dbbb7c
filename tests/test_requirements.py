"""What the document requires of every list of calls, tried on many lists that a seed tells."""

import random
import unittest

from helper import OVER, call, create, run

MEMBERS = [5, 6, 7]
ITEMS = 4


def random_change(choose, time):
    member = choose.choice(MEMBERS)
    item = choose.randrange(ITEMS)
    kind = choose.randrange(6)
    value = choose.randint(1, 10) if kind == 3 else 0
    others = [
        call("add_item", choose.randrange(9), choose.randrange(999), 3, sorted(choose.sample(range(32), 2))),
        call("set_price", item, choose.randrange(999)),
        call("set_withdrawn", item, choose.randrange(2)),
        call("add_member", member, choose.randrange(99)),
        call("delete_member", member),
        call("expire", 1440 + choose.randrange(time + 1)),
    ]
    if choose.randrange(3) > 0:
        return call("record", time, member, item, kind, value)
    return choose.choice(others)


def random_changes(seed, how_many):
    """Changes that all succeed behind each other, the first of them a create."""
    choose = random.Random(seed)
    weights = [choose.randrange(5) for place in range(6)]
    taken = [create(choose.randrange(2), 30, weights)]
    taken += [call("add_item", item, 10, 20, [item, item + 7]) for item in range(ITEMS)]
    taken += [call("add_member", member, 1) for member in MEMBERS]
    time = 0
    while len(taken) < how_many:
        time += choose.choice([0, 0, 1, 7, 40])
        change = random_change(choose, time)
        if run(*taken, change)[-1][0] >= 0:
            taken.append(change)
    return taken


def questions():
    asked = []
    for item in range(ITEMS):
        asked += [call("item_info", item), call("counts", item, 20, 90), call("ratings", item),
                  call("popularity", item, 150, 20)]
    return asked + [call("member_info", member) for member in MEMBERS] + [
        call("top_items", 150, 20, OVER), call("categories", 20, 90), call("item_info", ITEMS)]


def member_of(change):
    """The member whom a change concerns, None for the others."""
    if change[0] in (4, 5):
        return change[2]
    return change[3] if change[0] == 6 else None


class Requirements(unittest.TestCase):
    def test_1_deletion_is_as_if_the_member_had_never_been_there(self):
        for seed in range(60):
            changes = random_changes(seed, 30)
            for member in MEMBERS:
                with self.subTest(seed=seed, member=member):
                    others = [change for change in changes if member_of(change) != member]
                    told = run(*changes, call("delete_member", member), *questions())
                    self.assertEqual(told[31:], run(*others, *questions())[len(others):])

    def test_2_events_are_ordered_by_time(self):
        for seed in range(60):
            changes = random_changes(seed, 35)
            dates = [change[2] for change, told in zip(changes, run(*changes)) if change[0] == 6]
            self.assertEqual(dates, sorted(dates))
            for member in MEMBERS:
                found = run(*changes, call("member_info", member))[-1]
                self.assertLessEqual(found[-1], max(dates, default=0) + 1)

    def test_2_events_belong_to_existing_members_and_items(self):
        for seed in range(60):
            changes = random_changes(seed, 30)
            told = run(*changes, *questions(), call("expire", 100000000))[30:]
            of_items = sum(sum(run(*changes, call("counts", item, 0, OVER))[-1][1:]) for item in range(ITEMS))
            of_members = sum(found[1] for found in told[16:19] if len(found) == 4)
            self.assertEqual(of_items, of_members)

    def test_4_order_of_top_items(self):
        for seed in range(60):
            changes = random_changes(seed, 30)
            told = run(*changes, *questions())[30:]
            scores = {}
            for item in range(ITEMS):
                withdrawn = told[4 * item][3]
                score = told[4 * item + 3][1] * (1 << 40) // told[4 * item + 3][2]
                if score > 0 and withdrawn == 0:
                    scores[item] = score
            self.assertEqual([item for item in told[19][1:] if item < ITEMS],
                             sorted(scores, key=lambda item: (-scores[item], item)))

    def test_6_expire_a_second_time_removes_nothing(self):
        for seed in range(60):
            changes = random_changes(seed, 30)
            for time in (1440, 1470, 1500, 1700):
                told = run(*changes, call("expire", time), call("expire", time), *questions())
                self.assertEqual(told[31], [0])
                self.assertEqual(told[32:], run(*changes, call("expire", time), *questions())[31:])

    def test_7_an_error_leaves_the_state_unchanged(self):
        choose = random.Random(7)
        refused = 0
        for seed in range(60):
            changes = random_changes(seed, 30)
            kept = run(*changes, *questions())
            for attempt in range(10):
                numbers = [choose.choice([0, 1, 3, 5, 7, 32, 1001, OVER]) for place in range(8)]
                name = choose.choice(["create", "add_item", "set_price", "set_withdrawn", "add_member",
                                      "delete_member", "record", "expire"])
                length = {"create": 8, "add_item": 5, "record": 5, "delete_member": 1, "expire": 1}.get(name, 2)
                found = run(*changes, call(name, numbers[:length]), *questions())
                if found.pop(30)[0] < 0:
                    refused += 1
                    self.assertEqual(found, kept)
        self.assertGreater(refused, 300)


if __name__ == "__main__":
    unittest.main()
