import unittest

from helper import MISSING, OVER, add_item, call, create, last, run

START = [create(1)] + [add_item()] * 4 + [call("add_member", member, 0) for member in (7, 3, 5)]
LONE = [create(), add_item(), call("add_member", 7, 0)]


def met(*pairs):
    """Views, a minute after each other: a member and an item each."""
    return [call("record", time, pairs[time][0], pairs[time][1], 0, 0) for time in range(len(pairs))]


class History(unittest.TestCase):
    def told(self, count, *pairs):
        return last(*START, *met(*pairs), call("history", 7, count))

    def test_the_latest_first(self):
        self.assertEqual(self.told(9, (7, 1), (7, 3), (7, 0)), [3, 0, 3, 1])

    def test_the_last_event_with_an_item_decides(self):
        self.assertEqual(self.told(9, (7, 2), (7, 1), (7, 2)), [2, 2, 1])
        self.assertEqual(self.told(9, (7, 0), (7, 1), (7, 1), (7, 2), (7, 0), (7, 1)), [3, 1, 0, 2])
        self.assertEqual(self.told(9, (7, 1), (7, 0), (7, 1), (7, 0), (7, 0)), [2, 0, 1])

    def test_events_at_one_time_by_their_order(self):
        calls = [call("record", 4, 7, item, kind, 0) for item, kind in ((3, 0), (0, 1), (2, 5), (0, 4))]
        self.assertEqual(last(*START, *calls, call("history", 7, 9)), [3, 0, 2, 3])

    def test_as_many_as_asked_for(self):
        pairs = [(7, 1), (7, 3), (7, 1), (7, 0)]
        for count, expected in ((0, [0]), (1, [1, 0]), (2, [2, 0, 1]), (3, [3, 0, 1, 3]), (4, [3, 0, 1, 3]),
                                (OVER, [3, 0, 1, 3])):
            self.assertEqual(self.told(count, *pairs), expected)

    def test_only_own_events(self):
        self.assertEqual(self.told(9, (7, 1), (3, 2), (7, 0), (5, 1), (3, 0)), [2, 0, 1])

    def test_no_events(self):
        self.assertEqual(self.told(9), [0])
        self.assertEqual(self.told(0), [0])
        self.assertEqual(self.told(9, (3, 1)), [0])

    def test_withdrawn_items_too(self):
        self.assertEqual(last(*START, *met((7, 1), (7, 2)), call("set_withdrawn", 1, 1), call("history", 7, 9)),
                         [2, 2, 1])

    def test_what_is_expired_is_gone(self):
        self.assertEqual(last(*START, *met((7, 1), (7, 2)), call("expire", 1440), call("history", 7, 9)), [1, 2])

    def test_no_such_member(self):
        self.assertEqual(last(*START, call("history", 4, 9)), MISSING)
        self.assertEqual(last(*START, call("history", OVER, 0)), MISSING)


class Unseen(unittest.TestCase):
    def told(self, *pairs):
        return last(*START, *met(*pairs), call("unseen", 7))

    def test_in_increasing_order(self):
        self.assertEqual(self.told(), [4, 0, 1, 2, 3])
        self.assertEqual(self.told((7, 2)), [3, 0, 1, 3])
        self.assertEqual(self.told((7, 3), (7, 0), (7, 3)), [2, 1, 2])
        self.assertEqual(self.told((7, 3), (7, 0), (7, 1), (7, 2)), [0])

    def test_any_kind_of_event_counts(self):
        for kind in range(6):
            event = call("record", 0, 7, 1, kind, 4 if kind == 3 else 0)
            self.assertEqual(last(*START, event, call("unseen", 7)), [3, 0, 2, 3])

    def test_what_others_met_stays_unseen(self):
        self.assertEqual(self.told((3, 0), (5, 1), (7, 2), (3, 3)), [3, 0, 1, 3])

    def test_withdrawn_items_are_left_out(self):
        self.assertEqual(run(*START, *met((7, 1)), call("set_withdrawn", 0, 1), call("unseen", 7),
                             call("set_withdrawn", 1, 1), call("unseen", 7), call("set_withdrawn", 0, 0),
                             call("unseen", 7))[9:], [[0], [2, 2, 3], [0], [2, 2, 3], [1], [3, 0, 2, 3]])

    def test_no_items(self):
        self.assertEqual(last(create(), call("add_member", 7, 0), call("unseen", 7)), [0])

    def test_what_is_expired_is_unseen_again(self):
        self.assertEqual(last(*START, *met((7, 1), (7, 2)), call("expire", 1440), call("unseen", 7)), [3, 0, 1, 3])

    def test_no_such_member(self):
        self.assertEqual(last(*START, call("unseen", 4)), MISSING)
        self.assertEqual(last(*START, call("unseen", OVER)), MISSING)


class Opinions(unittest.TestCase):
    def of_one(self, *kinds):
        """The opinion after events of these kinds; a pair is a rating with its value."""
        calls = []
        for kind in kinds:
            numbers = kind if isinstance(kind, tuple) else (kind, 0)
            calls.append(call("record", 0, 7, 0, *numbers))
        told = last(*LONE, *calls, call("opinions", 7))
        self.assertEqual(told[:2], [1, 0])
        self.assertEqual(len(told), 3)
        return told[2]

    def test_views_and_skips_alone(self):
        self.assertEqual([self.of_one(0), self.of_one(5), self.of_one(0, 5, 0)], [5, 5, 5])

    def test_one_leaning(self):
        self.assertEqual([self.of_one(1), self.of_one(4), self.of_one(2)], [10, 10, 1])

    def test_the_last_leaning_decides(self):
        self.assertEqual([self.of_one(1, 2), self.of_one(4, 2), self.of_one(2, 1), self.of_one(2, 4)], [1, 1, 10, 10])
        self.assertEqual([self.of_one(1, 4, 2), self.of_one(2, 2, 1), self.of_one(2, 1, 4, 2, 1)], [1, 10, 10])

    def test_views_and_skips_behind_it_change_nothing(self):
        self.assertEqual([self.of_one(2, 0, 5), self.of_one(0, 1, 5, 0), self.of_one(5, 4, 0)], [1, 10, 10])

    def test_a_rating_beside_other_kinds(self):
        self.assertEqual([self.of_one((3, 4)), self.of_one((3, 4), 1), self.of_one((3, 4), 2)], [4, 4, 4])
        self.assertEqual([self.of_one(1, (3, 4)), self.of_one(2, (3, 9), 4), self.of_one(0, (3, 6), 5)], [4, 9, 6])

    def test_every_value_of_a_rating(self):
        self.assertEqual([self.of_one((3, value), 2) for value in range(1, 11)], list(range(1, 11)))

    def test_the_last_rating(self):
        self.assertEqual([self.of_one((3, 4), (3, 9)), self.of_one((3, 9), 1, (3, 2), 4)], [9, 2])

    def test_items_in_increasing_order(self):
        calls = [call("record", 0, 7, 3, 1, 0), call("record", 1, 7, 0, 0, 0), call("record", 2, 7, 2, 3, 6),
                 call("record", 3, 7, 3, 2, 0)]
        self.assertEqual(last(*START, *calls, call("opinions", 7)), [3, 0, 5, 2, 6, 3, 1])

    def test_only_own_events(self):
        calls = [call("record", 0, 7, 1, 1, 0), call("record", 1, 3, 1, 2, 0), call("record", 2, 5, 1, 3, 4),
                 call("record", 2, 5, 0, 3, 4)]
        self.assertEqual(run(*START, *calls, call("opinions", 7), call("opinions", 3), call("opinions", 5))[12:],
                         [[1, 1, 10], [1, 1, 1], [2, 0, 4, 1, 4]])

    def test_withdrawn_items_too(self):
        self.assertEqual(last(*START, *met((7, 1), (7, 2)), call("set_withdrawn", 1, 1), call("opinions", 7)),
                         [2, 1, 5, 2, 5])

    def test_no_events(self):
        self.assertEqual(last(*START, call("opinions", 7)), [0])
        self.assertEqual(last(*START, *met((3, 1)), call("opinions", 7)), [0])

    def test_no_such_member(self):
        self.assertEqual(last(*START, call("opinions", 4)), MISSING)
        self.assertEqual(last(*START, call("opinions", OVER)), MISSING)


class CommonMembers(unittest.TestCase):
    def told(self, first, second, *pairs):
        return last(*START, *met(*pairs), call("common_members", first, second))

    def test_in_the_order_of_adding(self):
        pairs = [(5, 0), (3, 1), (5, 1), (3, 0), (7, 1), (7, 0)]
        self.assertEqual(self.told(0, 1, *pairs), [3, 7, 3, 5])
        self.assertEqual(self.told(1, 0, *pairs), [3, 7, 3, 5])

    def test_a_member_who_was_added_again_comes_last(self):
        again = [call("delete_member", 7), call("add_member", 7, 0)]
        self.assertEqual(last(*START, *again, *met((7, 0), (3, 0), (5, 0)), call("common_members", 0, 0)), [3, 3, 5, 7])

    def test_both_items_are_needed(self):
        pairs = [(7, 0), (3, 1), (5, 0), (5, 1), (5, 0), (7, 2)]
        self.assertEqual(self.told(0, 1, *pairs), [1, 5])
        self.assertEqual(self.told(0, 2, *pairs), [1, 7])
        self.assertEqual(self.told(1, 2, *pairs), [0])
        self.assertEqual(self.told(3, 0, *pairs), [0])
        self.assertEqual(self.told(0, 3, *pairs), [0])

    def test_one_item_twice(self):
        pairs = [(5, 0), (3, 1), (7, 0)]
        self.assertEqual(self.told(0, 0, *pairs), [2, 7, 5])
        self.assertEqual(self.told(3, 3, *pairs), [0])

    def test_any_kind_in_any_session(self):
        calls = [call("record", 0, 3, 0, 5, 0), call("record", 9999, 3, 1, 2, 0)]
        self.assertEqual(last(*START, *calls, call("common_members", 0, 1)), [1, 3])

    def test_withdrawn_items_too(self):
        self.assertEqual(last(*START, *met((3, 0), (3, 1)), call("set_withdrawn", 0, 1), call("set_withdrawn", 1, 1),
                              call("common_members", 0, 1)), [1, 3])

    def test_no_such_item(self):
        self.assertEqual(run(*START, call("common_members", 4, 0), call("common_members", 0, 4),
                             call("common_members", 4, 4), call("common_members", OVER, 0),
                             call("common_members", 3, 0))[8:], [MISSING, MISSING, MISSING, MISSING, [0]])


if __name__ == "__main__":
    unittest.main()
