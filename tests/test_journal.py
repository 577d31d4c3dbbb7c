import unittest

from eventshelf.journal import record
from eventshelf.catalog import add_item as add_to_shelf
from eventshelf.catalog import set_withdrawn
from eventshelf.membership import add_member, delete_member
from eventshelf.store import Store
from helper import FULL, IMPOSSIBLE, MISSING, OUTSIDE, OVER, WEIGHTS
from helper import add_item, call, create, last, run, small_store

START = [create(1), add_item(0), add_item(0, 31), call("add_member", 5, 0), call("add_member", 6, 0)]


class Record(unittest.TestCase):
    def recorded(self, *values):
        return last(*START, call("record", *values))

    def test_number_of_events(self):
        self.assertEqual(run(*START, call("record", 3, 5, 0, 0, 0), call("record", 3, 6, 1, 5, 0),
                             call("record", 4, 5, 0, 0, 0))[5:], [[1], [2], [3]])

    def test_no_such_member_or_item(self):
        self.assertEqual(self.recorded(0, 7, 0, 0, 0), MISSING)
        self.assertEqual(self.recorded(0, 5, 2, 0, 0), MISSING)
        self.assertEqual(self.recorded(0, OVER, OVER, 0, 0), MISSING)

    def test_limits_of_time(self):
        self.assertEqual(self.recorded(0, 5, 0, 0, 0), [1])
        self.assertEqual(self.recorded(100000000, 5, 0, 0, 0), [1])
        self.assertEqual(self.recorded(100000001, 5, 0, 0, 0), OUTSIDE)

    def test_time_never_decreases(self):
        self.assertEqual(run(*START, call("record", 10, 5, 0, 0, 0), call("record", 9, 6, 1, 0, 0),
                             call("record", 10, 6, 1, 0, 0), call("record", 0, 5, 0, 0, 0),
                             call("record", 11, 5, 0, 0, 0))[5:], [[1], OUTSIDE, [2], OUTSIDE, [3]])

    def test_kinds(self):
        for kind in (0, 1, 2, 4, 5):
            with self.subTest(kind):
                self.assertEqual(self.recorded(0, 5, 0, kind, 0), [1])
                self.assertEqual(self.recorded(0, 5, 0, kind, 1), OUTSIDE)
                self.assertEqual(self.recorded(0, 5, 0, kind, OVER), OUTSIDE)
        for value in (0, 1, 10):
            self.assertEqual(self.recorded(0, 5, 0, 6, value), OUTSIDE)
            self.assertEqual(self.recorded(0, 5, 0, OVER, value), OUTSIDE)

    def test_value_of_a_rating(self):
        for value in range(1, 11):
            self.assertEqual(self.recorded(0, 5, 0, 3, value), [1])
        for value in (0, 11, OVER):
            self.assertEqual(self.recorded(0, 5, 0, 3, value), OUTSIDE)

    def test_a_withdrawn_item_takes_all_but_purchases(self):
        start = START + [call("set_withdrawn", 0, 1)]
        for kind in (0, 1, 2, 5):
            self.assertEqual(last(*start, call("record", 0, 5, 0, kind, 0)), [1])
        self.assertEqual(last(*start, call("record", 0, 5, 0, 3, 1)), [1])
        self.assertEqual(last(*start, call("record", 0, 5, 0, 4, 0)), IMPOSSIBLE)
        self.assertEqual(last(*start, call("record", 0, 5, 1, 4, 0)), [1])
        self.assertEqual(last(*start, call("set_withdrawn", 0, 0), call("record", 0, 5, 0, 4, 0)), [1])

    def test_order_of_errors(self):
        start = START + [call("set_withdrawn", 0, 1), call("record", 10, 5, 0, 0, 0)]
        self.assertEqual(last(*start, call("record", 9, 7, 0, 4, 0)), MISSING)
        self.assertEqual(last(*start, call("record", 10, 5, 2, 9, 9)), MISSING)
        self.assertEqual(last(*start, call("record", 9, 5, 0, 4, 0)), OUTSIDE)
        self.assertEqual(last(*start, call("record", 10, 5, 0, 4, 1)), OUTSIDE)
        self.assertEqual(last(*start, call("record", 100000001, 5, 0, 4, 0)), OUTSIDE)
        self.assertEqual(last(*start, call("record", 10, 5, 0, 4, 0)), IMPOSSIBLE)

    def test_any_time_again_when_all_events_are_gone(self):
        self.assertEqual(run(*START, call("record", 10, 5, 0, 0, 0), call("expire", 1450),
                             call("record", 0, 5, 0, 0, 0))[5:], [[1], [1], [1]])


class TwoHundredEvents(unittest.TestCase):
    """A list of calls is too short for so many events, so these ask the call itself."""

    def setUp(self):
        self.store = Store(0, 0, WEIGHTS)
        add_to_shelf(self.store, 0, 0, 0, [])
        add_member(self.store, 5, 0)
        add_member(self.store, 6, 0)
        self.told = [record(self.store, 7, 5 if place < 199 else 6, 0, 0, 0) for place in range(200)]

    def test_the_last_that_is_taken(self):
        self.assertEqual(self.told, [[number] for number in range(1, 201)])

    def test_one_more(self):
        self.assertEqual(record(self.store, 7, 5, 0, 0, 0), FULL)
        self.assertEqual(len(self.store.events), 200)

    def test_it_is_the_last_of_the_errors(self):
        set_withdrawn(self.store, 0, 1)
        self.assertEqual(record(self.store, 7, 9, 0, 0, 0), MISSING)
        self.assertEqual(record(self.store, 6, 5, 0, 0, 0), OUTSIDE)
        self.assertEqual(record(self.store, 7, 5, 0, 4, 0), IMPOSSIBLE)
        self.assertEqual(record(self.store, 7, 5, 0, 3, 1), FULL)

    def test_room_after_a_deletion(self):
        delete_member(self.store, 6)
        self.assertEqual([record(self.store, 7, 5, 0, 0, 0) for place in range(2)], [[200], FULL])


class Expire(unittest.TestCase):
    def test_to_the_minute(self):
        start = START + [call("record", 10, 5, 0, 0, 0), call("record", 11, 5, 1, 1, 0), call("record", 11, 6, 0, 2, 0)]
        self.assertEqual(run(*start, call("expire", 1449), call("expire", 1450), call("counts", 0, 0, OVER),
                             call("expire", 1451), call("counts", 1, 0, OVER))[8:],
                         [[0], [1], [6, 0, 0, 1, 0, 0, 0], [2], [6, 0, 0, 0, 0, 0, 0]])

    def test_a_second_time_removes_nothing(self):
        for time in (0, 1540, 1550, 1560, 1565, 100000000):
            with self.subTest(time):
                self.assertEqual(run(*small_store(), call("expire", time), call("expire", time))[13], [0])

    def test_retention_counts_days(self):
        start = [create(10000), add_item(), call("add_member", 5, 0), call("record", 7, 5, 0, 0, 0)]
        self.assertEqual(run(*start, call("expire", 14400006), call("expire", 14400007))[4:], [[0], [1]])

    def test_retention_zero_keeps_for_ever(self):
        start = [create(0), add_item(), call("add_member", 5, 0), call("record", 0, 5, 0, 0, 0)]
        self.assertEqual(run(*start, call("expire", 0), call("expire", 100000000), call("member_info", 5))[4:],
                         [[0], [0], [0, 1, 1, 1]])

    def test_limits_of_time(self):
        for retention in (0, 1):
            self.assertEqual(run(create(retention), call("expire", 0), call("expire", 100000000),
                                 call("expire", 100000001), call("expire", OVER))[1:], [[0], [0], OUTSIDE, OUTSIDE])

    def test_the_others_stay_in_order(self):
        self.assertEqual(run(*small_store(), call("expire", 1550), call("record", 124, 50, 0, 0, 0),
                             call("record", 125, 50, 0, 0, 0), call("member_info", 50), call("member_info", 20))[12:],
                         [[2], OUTSIDE, [4], [10, 2, 1, 126], [11, 2, 2, 126]])


class Counts(unittest.TestCase):
    def test_each_kind(self):
        start = START + [call("record", 5, 5, 0, kind, 0) for kind in (0, 1, 1, 2, 4, 5, 5, 5)]
        start += [call("record", 5, 6, 0, 3, 9), call("record", 5, 6, 1, 2, 0)]
        self.assertEqual(run(*start, call("counts", 0, 0, 6), call("counts", 1, 0, 6))[15:],
                         [[6, 1, 2, 1, 1, 1, 3], [6, 0, 0, 1, 0, 0, 0]])

    def test_the_ends_of_the_interval(self):
        start = START + [call("record", time, 5, 0, 0, 0) for time in (0, 10, 10, 20)]

        def views(low, high):
            return last(*start, call("counts", 0, low, high))[1]
        self.assertEqual([views(0, 10), views(0, 11), views(10, 20), views(11, 20), views(10, 21)], [1, 3, 2, 0, 3])
        self.assertEqual([views(0, 0), views(10, 10), views(20, 10), views(0, OVER), views(OVER, 0)], [0, 0, 0, 4, 0])

    def test_a_withdrawn_item(self):
        self.assertEqual(last(*START, call("record", 1, 5, 0, 0, 0), call("set_withdrawn", 0, 1),
                              call("counts", 0, 0, 9)), [6, 1, 0, 0, 0, 0, 0])

    def test_no_such_item(self):
        self.assertEqual(last(*START, call("counts", 2, 0, 9)), MISSING)
        self.assertEqual(last(*START, call("counts", OVER, 9, 0)), MISSING)


class Categories(unittest.TestCase):
    def summed(self, low, high, *more):
        start = START + [call("record", 10, 5, 0, 0, 0), call("record", 20, 6, 1, 4, 0),
                         call("record", 30, 6, 1, 1, 0)]
        told = last(*start, *more, call("categories", low, high))
        self.assertEqual(len(told), 33)
        self.assertEqual(told[0], 32)
        self.assertEqual(sum(told[2:32]), 0)
        return [told[1], told[32]]

    def test_an_event_counts_for_each_category(self):
        self.assertEqual(self.summed(0, OVER), [14, 13])

    def test_the_ends_of_the_interval(self):
        self.assertEqual(self.summed(10, 20), [1, 0])
        self.assertEqual(self.summed(11, 30), [10, 10])
        self.assertEqual(self.summed(20, 31), [13, 13])
        self.assertEqual(self.summed(30, 30), [0, 0])
        self.assertEqual(self.summed(31, 0), [0, 0])

    def test_withdrawn_items_count_too(self):
        self.assertEqual(self.summed(0, OVER, call("set_withdrawn", 1, 1)), [14, 13])

    def test_items_without_categories_and_no_events(self):
        self.assertEqual(last(create(), call("categories", 0, OVER)), [32] + [0] * 32)
        self.assertEqual(last(create(), add_item(), call("add_member", 5, 0), call("record", 0, 5, 0, 4, 0),
                              call("categories", 0, OVER)), [32] + [0] * 32)

    def test_every_category_in_its_place(self):
        for category in range(32):
            expected = [32] + [0] * 32
            expected[1 + category] = 3
            self.assertEqual(last(create(), add_item(category), call("add_member", 5, 0),
                                  call("record", 0, 5, 0, 1, 0), call("categories", 0, 1)), expected)


class Profile(unittest.TestCase):
    def told(self, *rows):
        """The weights of the categories of member 5 that aren't 0; the items 1 to 3 have 31, 0 and 31, and none."""
        start = [create(1), add_item(7), add_item(31), add_item(0, 31), add_item(), call("add_member", 5, 0),
                 call("add_member", 6, 0)]
        told = last(*start, *[call("record", *row) for row in rows], call("profile", 5))
        self.assertEqual(len(told), 33)
        self.assertEqual(told[0], 32)
        return {place: told[1 + place] for place in range(32) if told[1 + place] != 0}

    def test_all_events_of_the_member(self):
        self.assertEqual(self.told((0, 5, 1, 0, 0), (9, 5, 1, 4, 0), (100000000, 5, 1, 1, 0)), {31: 14})

    def test_the_weight_of_each_kind(self):
        for kind in range(6):
            weight = WEIGHTS[kind]
            self.assertEqual(self.told((0, 5, 0, kind, 4 if kind == 3 else 0)), {7: weight} if weight > 0 else {})

    def test_an_item_with_several_categories_and_one_with_none(self):
        self.assertEqual(self.told((0, 5, 2, 4, 0), (0, 5, 3, 4, 0), (0, 5, 1, 1, 0)), {0: 10, 31: 13})

    def test_only_own_events(self):
        self.assertEqual(self.told((0, 6, 2, 4, 0), (0, 5, 1, 1, 0), (3, 6, 0, 0, 0)), {31: 3})
        self.assertEqual(self.told((0, 6, 2, 4, 0)), {})

    def test_no_events(self):
        self.assertEqual(self.told(), {})

    def test_withdrawn_items_count_too(self):
        self.assertEqual(last(*START, call("record", 0, 5, 0, 0, 0), call("set_withdrawn", 0, 1), call("profile", 5)),
                         [32, 1] + [0] * 31)

    def test_what_is_expired_is_gone(self):
        self.assertEqual(last(*START, call("record", 0, 5, 1, 4, 0), call("record", 1, 5, 0, 0, 0),
                              call("expire", 1440), call("profile", 5)), [32, 1] + [0] * 31)

    def test_no_such_member(self):
        self.assertEqual(last(*START, call("profile", 7)), MISSING)
        self.assertEqual(last(*START, call("profile", OVER)), MISSING)


class Split(unittest.TestCase):
    def told(self, time, *rows):
        return last(*START, *[call("record", row[0], row[1], 0, 0, 0) for row in rows], call("split", time))

    def test_events_just_at_the_time(self):
        rows = [(9, 5), (10, 5), (10, 6), (11, 6)]
        self.assertEqual(self.told(9, *rows), [0, 4, 0])
        self.assertEqual(self.told(10, *rows), [1, 3, 1])
        self.assertEqual(self.told(11, *rows), [3, 1, 1])
        self.assertEqual(self.told(12, *rows), [4, 0, 0])

    def test_members_with_both_are_counted_once(self):
        rows = [(0, 5), (1, 5), (1, 6), (2, 5), (3, 5), (3, 6), (4, 6)]
        self.assertEqual(self.told(2, *rows), [3, 4, 2])
        self.assertEqual(self.told(1, *rows), [1, 6, 1])
        self.assertEqual(self.told(4, *rows), [6, 1, 1])

    def test_members_with_one_of_them_are_not_known(self):
        self.assertEqual(self.told(5, (0, 5), (1, 5), (6, 6), (7, 6)), [2, 2, 0])

    def test_no_events(self):
        self.assertEqual(self.told(0), [0, 0, 0])
        self.assertEqual(last(create(), call("split", 7)), [0, 0, 0])

    def test_any_time(self):
        self.assertEqual(self.told(0, (0, 5), (100000000, 5)), [0, 2, 0])
        self.assertEqual(self.told(100000000, (0, 5), (100000000, 5)), [1, 1, 1])
        self.assertEqual(self.told(100000001, (0, 5), (100000000, 5)), [2, 0, 0])
        self.assertEqual(self.told(OVER, (0, 5), (100000000, 5)), [2, 0, 0])


class ByCreator(unittest.TestCase):
    def told(self, creator, low, high):
        start = [create(1)] + [call("add_item", number, 0, 0) for number in (4, 0, 4, 1000)]
        start += [call("add_member", 5, 0), call("add_member", 6, 0)]
        rows = [(10, 5, 0, 0, 0), (10, 6, 2, 0, 0), (15, 5, 1, 1, 0), (20, 6, 2, 3, 9), (20, 5, 0, 2, 0),
                (25, 5, 3, 5, 0), (30, 5, 0, 4, 0), (30, 6, 2, 5, 0)]
        return last(*start, *[call("record", *row) for row in rows], call("set_withdrawn", 2, 1),
                    call("by_creator", creator, low, high))

    def test_all_items_of_the_creator(self):
        self.assertEqual(self.told(4, 0, OVER), [6, 2, 0, 1, 1, 1, 1])
        self.assertEqual(self.told(0, 0, OVER), [6, 0, 1, 0, 0, 0, 0])
        self.assertEqual(self.told(1000, 0, OVER), [6, 0, 0, 0, 0, 0, 1])

    def test_the_ends_of_the_interval(self):
        self.assertEqual(self.told(4, 10, 20), [6, 2, 0, 0, 0, 0, 0])
        self.assertEqual(self.told(4, 11, 30), [6, 0, 0, 1, 1, 0, 0])
        self.assertEqual(self.told(4, 20, 31), [6, 0, 0, 1, 1, 1, 1])

    def test_low_above_high(self):
        self.assertEqual(self.told(4, 31, 10), [6, 0, 0, 0, 0, 0, 0])
        self.assertEqual(self.told(4, 10, 10), [6, 0, 0, 0, 0, 0, 0])
        self.assertEqual(self.told(4, OVER, 0), [6, 0, 0, 0, 0, 0, 0])

    def test_any_creator(self):
        for creator in (1, 5, 999, 1001, OVER):
            self.assertEqual(self.told(creator, 0, OVER), [6, 0, 0, 0, 0, 0, 0])
        self.assertEqual(last(create(), call("by_creator", OVER, 0, OVER)), [6, 0, 0, 0, 0, 0, 0])


if __name__ == "__main__":
    unittest.main()
