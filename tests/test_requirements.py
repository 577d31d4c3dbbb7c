"""What the document requires of every list of calls, tried on many lists that a seed tells."""

import random
import unittest

from helper import OVER, call, create, run

MEMBERS = [5, 6, 7]
ITEMS = 4
GAP = 30
SEEDS = range(60)


def random_change(choose, time):
    member = choose.choice(MEMBERS)
    item = choose.randrange(ITEMS)
    kind = choose.randrange(6)
    value = choose.randint(1, 10) if kind == 3 else 0
    others = [
        call("add_item", choose.randrange(9), choose.randrange(999), 3, sorted(choose.sample(range(32), 2))),
        call("set_price", item, choose.randrange(999)),
        call("set_withdrawn", item, choose.randrange(2)),
        call("add_member", member, choose.randrange(99)),
        call("delete_member", member),
        call("expire", 1440 + choose.randrange(time + 1)),
    ]
    if choose.randrange(3) > 0:
        return call("record", time, member, item, kind, value)
    return choose.choice(others)


def random_changes(seed, how_many):
    """Changes that all succeed behind each other, the first of them a create."""
    choose = random.Random(seed)
    weights = [choose.randrange(5) for place in range(6)]
    taken = [create(choose.randrange(2), GAP, weights)]
    taken += [call("add_item", item // 2, 10, 20, [item, item + 7]) for item in range(ITEMS)]
    taken += [call("add_member", member, 1) for member in MEMBERS]
    time = 0
    while len(taken) < how_many:
        time += choose.choice([0, 0, 1, 7, 30, 31])
        change = random_change(choose, time)
        if run(*taken, change)[-1][0] >= 0:
            taken.append(change)
    return taken


def questions():
    """Every question there is, of every member and item."""
    asked = [call("digest"), call("status"), call("top_items", 150, 20, OVER), call("trending", 150, 60, OVER),
             call("categories", 20, 90), call("split", 80), call("by_creator", 1, 20, 90),
             call("funnel", 0, OVER, [0, 1, 4]), call("item_info", ITEMS)]
    for item in range(ITEMS):
        asked += [call("item_info", item), call("counts", item, 20, 90), call("ratings", item),
                  call("popularity", item, 150, 20), call("together", item, OVER), call("conversion", item),
                  call("common_members", item, (item + 1) % ITEMS)]
    for member in MEMBERS:
        asked += [call("member_info", member), call("profile", member), call("history", member, OVER),
                  call("sessions", member), call("unseen", member), call("opinions", member)]
    return asked


def asked_behind(changes, asked):
    """The answers to the questions behind the changes, which are done anew as often as the questions need it."""
    found = []
    room = 60 - len(changes)
    for begin in range(0, len(asked), room):
        found += run(*changes, *asked[begin:begin + room])[len(changes):]
    return found


def shown(changes):
    return asked_behind(changes, questions())


def members_there(changes):
    told = asked_behind(changes, [call("member_info", member) for member in MEMBERS])
    return [member for member, found in zip(MEMBERS, told) if len(found) == 4]


def member_of(change):
    """The member whom a change concerns, None for the others."""
    if change[0] in (4, 5):
        return change[2]
    return change[3] if change[0] == 6 else None


class Requirements(unittest.TestCase):
    def test_1_deletion_is_as_if_the_member_had_never_been_there(self):
        tried = 0
        for seed in SEEDS:
            changes = random_changes(seed, 30)
            for member in members_there(changes):
                with self.subTest(seed=seed, member=member):
                    tried += 1
                    others = [change for change in changes if member_of(change) != member]
                    self.assertEqual(shown(changes + [call("delete_member", member)]), shown(others))
        self.assertGreater(tried, 100)

    def test_2_events_are_ordered_by_time(self):
        for seed in SEEDS:
            changes = random_changes(seed, 35)
            dates = [change[2] for change, told in zip(changes, run(*changes)) if change[0] == 6]
            self.assertEqual(dates, sorted(dates))
            for member in MEMBERS:
                found = run(*changes, call("member_info", member))[-1]
                self.assertLessEqual(found[-1], max(dates, default=0) + 1)
            self.assertLessEqual(run(*changes, call("status"))[-1][-1], max(dates, default=0))

    def test_2_events_belong_to_existing_members_and_items(self):
        for seed in SEEDS:
            changes = random_changes(seed, 30)
            told = asked_behind(changes, [call("counts", item, 0, OVER) for item in range(ITEMS + 7)])
            of_items = sum(sum(found[1:]) for found in told if len(found) == 7)
            told = asked_behind(changes, [call("member_info", member) for member in MEMBERS])
            of_members = sum(found[1] for found in told if len(found) == 4)
            events = asked_behind(changes, [call("status")])[0][3]
            self.assertEqual([of_items, of_members], [events, events])

    def test_2_members_have_different_numbers(self):
        for seed in SEEDS:
            changes = random_changes(seed, 30)
            there = members_there(changes)
            self.assertEqual(asked_behind(changes, [call("status")])[0][2], len(there))
            for member in there:
                self.assertEqual(run(*changes, call("add_member", member, 1), call("delete_member", member),
                                     call("member_info", member))[30::2], [[-17], [-2]])

    def test_3_sessions_consist_of_the_events_of_their_member(self):
        several = 0
        for seed in SEEDS:
            changes = random_changes(seed, 40)
            for member in members_there(changes):
                info, found = run(*changes, call("member_info", member), call("sessions", member))[40:]
                rows = [found[begin:begin + 4] for begin in range(1, len(found), 4)]
                several += len(rows) > 1
                self.assertEqual(found[0], len(rows))
                self.assertEqual(sum(row[2] for row in rows), info[1])
                self.assertEqual(rows[-1][1] + 1 if rows else 0, info[3])
                for row in rows:
                    self.assertGreaterEqual(row[2], 1)
                    self.assertTrue(1 <= row[3] <= row[2])
                    self.assertLessEqual(row[1] - row[0], GAP * (row[2] - 1))
                for row, following in zip(rows, rows[1:]):
                    self.assertGreater(following[0] - row[1], GAP)
        self.assertGreater(several, 30)

    def test_3_gaps_in_sessions(self):
        # Without deletions and expiry the events of a member are those that were recorded.
        for seed in SEEDS:
            changes = [change for change in random_changes(seed, 40) if change[0] not in (5, 7)]
            kept = [change for change, told in zip(changes, run(*changes)) if told[0] >= 0]
            for member in MEMBERS:
                dates = [change[2] for change in kept if change[0] == 6 and change[3] == member]
                found = run(*kept, call("sessions", member))[-1]
                begin = 0
                for place in range(1, len(found), 4):
                    inside = dates[begin:begin + found[place + 2]]
                    begin += len(inside)
                    self.assertEqual([inside[0], inside[-1]], found[place:place + 2])
                    self.assertLessEqual(max([b - a for a, b in zip(inside, inside[1:])], default=0), GAP)
                self.assertEqual(begin, len(dates))

    def test_4_order_of_top_items(self):
        for seed in SEEDS:
            changes = random_changes(seed, 30)
            scores = {}
            for item in range(ITEMS + 7):
                info, told = asked_behind(changes, [call("item_info", item), call("popularity", item, 150, 20)])
                if len(info) > 1 and told[1] > 0 and info[3] == 0:
                    scores[item] = told[1] * (1 << 40) // told[2]
            ordered = sorted(scores, key=lambda item: (-scores[item], item))
            for count in (0, 1, 2, OVER):
                top = asked_behind(changes, [call("top_items", 150, 20, count)])[0]
                self.assertEqual(top, [len(ordered[:count])] + ordered[:count])

    def test_5_a_later_step_is_never_reached_more_often(self):
        choose = random.Random(5)
        reached = 0
        for seed in SEEDS:
            changes = random_changes(seed, 45)
            for attempt in range(20):
                kinds = [choose.randrange(6) for place in range(choose.randint(1, 6))]
                low = choose.randrange(50)
                told = run(*changes, call("funnel", low, choose.choice([low + 90, OVER]), kinds))[-1]
                self.assertEqual(told[0], len(kinds))
                self.assertEqual(len(told), len(kinds) + 1)
                self.assertEqual(told[1:], sorted(told[1:], reverse=True))
                reached += len([number for number in told[2:] if number > 0])
        self.assertGreater(reached, 100)

    def test_6_expire_a_second_time_removes_nothing(self):
        removed = 0
        for seed in SEEDS:
            changes = random_changes(seed, 30)
            for time in (1440, 1470, 1500, 1700):
                expire = call("expire", time)
                told = run(*changes, expire, expire)[30:]
                removed += told[0][0]
                self.assertEqual(told[1], [0])
                self.assertEqual(shown(changes + [expire, expire]), shown(changes + [expire]))
        self.assertGreater(removed, 100)

    def test_7_an_error_leaves_the_state_unchanged(self):
        choose = random.Random(7)
        lengths = {"create": 8, "add_item": 5, "record": 5, "delete_member": 1, "expire": 1, "item_info": 1,
                   "member_info": 1, "counts": 3, "ratings": 1, "popularity": 3, "top_items": 3, "profile": 1,
                   "sessions": 1, "conversion": 1, "funnel": 4, "trending": 3, "unseen": 1, "opinions": 1}
        names = ["create", "add_item", "set_price", "set_withdrawn", "add_member", "delete_member", "record", "expire",
                 "item_info", "member_info", "counts", "ratings", "popularity", "top_items", "profile", "history",
                 "sessions", "together", "common_members", "conversion", "funnel", "trending", "unseen", "opinions"]
        refused = dict.fromkeys(names, 0)
        for seed in SEEDS:
            changes = random_changes(seed, 30)
            kept = shown(changes)
            for name in names:
                numbers = [choose.choice([0, 1, 3, 5, 7, 32, 1001, 100001, OVER]) for place in range(8)]
                bad = call(name, numbers[:lengths.get(name, 2)])
                if run(*changes, bad)[-1][0] < 0:
                    refused[name] += 1
                    self.assertEqual(shown(changes + [bad]), kept)
        self.assertGreater(min(refused.values()), 3, refused)


if __name__ == "__main__":
    unittest.main()
