import unittest

from eventshelf.limits import kinds_fit
from helper import IMPOSSIBLE, MISSING, OUTSIDE, OVER, WEIGHTS, add_item, call, create, last, run

REST = [add_item()] * 5 + [call("add_member", member, 0) for member in (7, 3, 5)]
GAP = 30
START = [create(1, GAP)] + REST


def met(*rows):
    """Events: a time, a member, an item, and a kind where it isn't a view."""
    return [call("record", row[0], row[1], row[2], row[3] if len(row) > 3 else 0, 0) for row in rows]


class Sessions(unittest.TestCase):
    def told(self, gap, *rows):
        return last(create(0, gap), *REST, *met(*rows), call("sessions", 7))

    def test_just_the_gap_and_one_more(self):
        self.assertEqual(self.told(30, (10, 7, 0), (40, 7, 0)), [1, 10, 40, 2, 1])
        self.assertEqual(self.told(30, (10, 7, 0), (41, 7, 0)), [2, 10, 10, 1, 1, 41, 41, 1, 1])

    def test_the_gap_to_the_event_before_counts(self):
        self.assertEqual(self.told(30, (0, 7, 0), (30, 7, 1), (60, 7, 0), (90, 7, 2), (121, 7, 0)),
                         [2, 0, 90, 4, 3, 121, 121, 1, 1])

    def test_a_gap_of_zero(self):
        self.assertEqual(self.told(0, (5, 7, 0), (5, 7, 1), (6, 7, 1), (6, 7, 1)), [2, 5, 5, 2, 2, 6, 6, 2, 1])

    def test_the_greatest_gap(self):
        self.assertEqual(self.told(10000, (0, 7, 0), (10000, 7, 1), (20001, 7, 1)),
                         [2, 0, 10000, 2, 2, 20001, 20001, 1, 1])

    def test_several_events_at_one_time(self):
        self.assertEqual(self.told(1, (5, 7, 0), (5, 7, 0), (5, 7, 2), (6, 7, 1), (8, 7, 1), (8, 7, 1)),
                         [2, 5, 6, 4, 3, 8, 8, 2, 1])

    def test_the_first_event_at_time_zero_and_a_late_one(self):
        self.assertEqual(self.told(30, (0, 7, 4)), [1, 0, 0, 1, 1])
        self.assertEqual(self.told(30, (100000000, 7, 4)), [1, 100000000, 100000000, 1, 1])

    def test_without_events(self):
        self.assertEqual(self.told(30), [0])
        self.assertEqual(self.told(30, (5, 3, 0)), [0])

    def test_events_of_others_between_do_not_join_them(self):
        self.assertEqual(self.told(30, (0, 7, 0), (20, 3, 1), (40, 7, 0)), [2, 0, 0, 1, 1, 40, 40, 1, 1])

    def test_events_of_others_between_do_not_part_them(self):
        self.assertEqual(self.told(30, (0, 3, 0), (10, 7, 0), (20, 3, 1), (40, 7, 2), (50, 3, 4)), [1, 10, 40, 2, 2])

    def test_different_items_of_each_session(self):
        self.assertEqual(self.told(1, (0, 7, 0), (1, 7, 1), (2, 7, 0), (9, 7, 0), (9, 7, 2)),
                         [2, 0, 2, 3, 2, 9, 9, 2, 2])

    def test_a_deletion_and_an_expire(self):
        rows = met((0, 7, 0), (20, 7, 1), (40, 7, 2), (40, 3, 2))
        self.assertEqual(run(*START, *rows, call("delete_member", 3), call("expire", 1460), call("sessions", 7))[13:],
                         [[1], [2], [1, 40, 40, 1, 1]])

    def test_no_such_member(self):
        self.assertEqual(last(*START, call("sessions", 4)), MISSING)
        self.assertEqual(last(*START, call("sessions", OVER)), MISSING)


class Together(unittest.TestCase):
    def told(self, count, *rows, item=0, withdrawn=()):
        hidden = [call("set_withdrawn", other, 1) for other in withdrawn]
        return last(*START, *met(*rows), *hidden, call("together", item, count))

    def test_sessions_of_all_members(self):
        rows = [(0, 7, 0), (1, 7, 1), (2, 3, 0), (3, 3, 1), (4, 3, 2), (5, 5, 1), (6, 5, 2)]
        self.assertEqual(self.told(9, *rows), [2, 1, 2, 2, 1])
        self.assertEqual(self.told(9, *rows, item=1), [2, 0, 2, 2, 2])
        self.assertEqual(self.told(9, *rows, item=2), [2, 1, 2, 0, 1])

    def test_several_sessions_of_a_member(self):
        rows = [(0, 7, 0), (30, 7, 1), (61, 7, 1), (91, 7, 0), (122, 7, 0), (153, 7, 1)]
        self.assertEqual(self.told(9, *rows), [1, 1, 2])

    def test_a_session_counts_once(self):
        self.assertEqual(self.told(9, (0, 7, 0), (1, 7, 1), (2, 7, 0), (3, 7, 1), (4, 7, 1)), [1, 1, 1])

    def test_members_at_one_time_are_not_together(self):
        self.assertEqual(self.told(9, (0, 7, 0), (0, 3, 1)), [0])

    def test_ties_by_the_smaller_number(self):
        rows = [(0, 7, 4), (0, 7, 3), (0, 7, 0), (0, 7, 1), (1, 3, 3), (1, 3, 0)]
        self.assertEqual(self.told(9, *rows), [3, 3, 2, 1, 1, 4, 1])
        self.assertEqual(self.told(2, *rows), [2, 3, 2, 1, 1])

    def test_as_many_as_asked_for(self):
        rows = [(0, 7, 0), (0, 7, 2), (0, 7, 1)]
        for count, expected in ((0, [0]), (1, [1, 1, 1]), (2, [2, 1, 1, 2, 1]), (3, [2, 1, 1, 2, 1]),
                                (OVER, [2, 1, 1, 2, 1])):
            self.assertEqual(self.told(count, *rows), expected)

    def test_the_item_itself_is_left_out(self):
        self.assertEqual(self.told(9, (0, 7, 0), (1, 3, 0)), [0])
        self.assertEqual(self.told(1, (0, 7, 0), (1, 3, 0), (2, 3, 4)), [1, 4, 1])

    def test_the_number_zero_is_left_out(self):
        self.assertEqual(self.told(9), [0])
        self.assertEqual(self.told(9, (0, 7, 1), (0, 7, 2)), [0])
        self.assertEqual(self.told(9, (0, 7, 0), (31, 7, 1)), [0])

    def test_withdrawn_items_are_left_out(self):
        rows = [(0, 7, 0), (0, 7, 1), (0, 7, 2), (1, 3, 0), (1, 3, 1)]
        self.assertEqual(self.told(9, *rows, withdrawn=[1]), [1, 2, 1])
        self.assertEqual(self.told(1, *rows, withdrawn=[1]), [1, 2, 1])

    def test_an_item_that_is_asked_for_and_withdrawn(self):
        rows = [(0, 7, 0), (0, 7, 1), (0, 7, 2), (1, 3, 0), (1, 3, 1)]
        self.assertEqual(self.told(9, *rows, withdrawn=[0]), [2, 1, 2, 2, 1])

    def test_no_such_item(self):
        self.assertEqual(self.told(9, (0, 7, 0), item=5), MISSING)
        self.assertEqual(self.told(0, item=OVER), MISSING)


class Conversion(unittest.TestCase):
    def told(self, *rows):
        return last(*START, *met(*rows), call("conversion", 0))

    def test_a_purchase_behind_the_first_view(self):
        self.assertEqual(self.told((0, 7, 0), (1, 7, 0, 4)), [0, 1, 1])
        self.assertEqual(self.told((0, 7, 0), (0, 7, 0, 4)), [0, 1, 1])
        self.assertEqual(self.told((0, 7, 0), (1, 7, 1, 4), (2, 7, 0, 1), (30, 7, 0, 4), (31, 7, 0, 4)), [0, 1, 1])

    def test_a_purchase_ahead_of_the_first_view(self):
        self.assertEqual(self.told((0, 7, 0, 4), (1, 7, 0)), [0, 0, 1])
        self.assertEqual(self.told((0, 7, 0, 4), (0, 7, 0)), [0, 0, 1])

    def test_a_purchase_ahead_and_one_behind(self):
        self.assertEqual(self.told((0, 7, 0, 4), (1, 7, 0), (2, 7, 0, 4)), [0, 1, 1])

    def test_a_purchase_between_two_views(self):
        self.assertEqual(self.told((0, 7, 0), (1, 7, 0, 4), (2, 7, 0)), [0, 1, 1])

    def test_a_purchase_in_another_session(self):
        self.assertEqual(self.told((0, 7, 0), (31, 7, 0, 4)), [0, 0, 1])
        self.assertEqual(self.told((0, 7, 0), (30, 7, 0, 4)), [0, 1, 1])
        self.assertEqual(self.told((0, 7, 0), (31, 7, 0), (32, 7, 0, 4)), [0, 1, 2])

    def test_other_members_and_items_do_not_count(self):
        self.assertEqual(self.told((0, 7, 0), (1, 3, 0, 4), (2, 7, 1, 4)), [0, 0, 1])
        self.assertEqual(self.told((0, 7, 1), (1, 7, 0, 4), (2, 3, 0), (3, 3, 0, 4)), [0, 1, 1])

    def test_only_sessions_with_a_view(self):
        self.assertEqual(self.told((0, 7, 0), (1, 7, 0, 4), (2, 3, 0, 4), (3, 5, 0, 1)), [0, 1, 1])

    def test_lowest_terms(self):
        rows = [(0, 7, 0), (0, 3, 0), (0, 5, 0), (1, 7, 0, 4), (50, 7, 0), (51, 7, 0, 4)]
        self.assertEqual(self.told(*rows), [0, 1, 2])
        self.assertEqual(self.told(*rows[:4]), [0, 1, 3])
        self.assertEqual(self.told(*rows[:3]), [0, 0, 1])
        self.assertEqual(self.told(*rows[:2], *rows[3:]), [0, 2, 3])
        self.assertEqual(self.told(rows[0], *rows[3:]), [0, 1, 1])

    def test_a_withdrawn_item(self):
        self.assertEqual(last(*START, *met((0, 7, 0), (1, 7, 0, 4)), call("set_withdrawn", 0, 1),
                              call("conversion", 0)), [0, 1, 1])

    def test_no_session_with_a_view(self):
        self.assertEqual(self.told(), IMPOSSIBLE)
        self.assertEqual(self.told((0, 7, 0, 4), (1, 7, 1, 0), (2, 7, 0, 1), (3, 7, 0, 5)), IMPOSSIBLE)

    def test_no_such_item_comes_first(self):
        self.assertEqual(last(*START, call("conversion", 5)), MISSING)
        self.assertEqual(last(*START, call("conversion", OVER)), MISSING)


class Funnel(unittest.TestCase):
    def told(self, kinds, *rows, low=0, high=OVER):
        return last(*START, *met(*rows), call("funnel", low, high, kinds))

    def of_one(self, steps, kinds):
        """How far one pair gets with events of these kinds, all at one time."""
        return self.told(steps, *[(0, 7, 0, kind) for kind in kinds])

    def test_one_step(self):
        self.assertEqual(self.of_one([1], [0, 2, 5]), [1, 0])
        self.assertEqual(self.of_one([1], [0, 1, 1]), [1, 1])

    def test_in_order(self):
        self.assertEqual(self.of_one([0, 4], [0, 4]), [2, 1, 1])
        self.assertEqual(self.of_one([0, 4], [4, 0]), [2, 1, 0])
        self.assertEqual(self.of_one([0, 4], [4]), [2, 0, 0])
        self.assertEqual(self.of_one([0, 4], [4, 0, 4]), [2, 1, 1])
        self.assertEqual(self.of_one([0, 1, 4], [0, 4, 2]), [3, 1, 0, 0])

    def test_six_steps(self):
        steps = [0, 1, 2, 5, 4, 0]
        self.assertEqual(self.of_one(steps, steps), [6, 1, 1, 1, 1, 1, 1])
        self.assertEqual(self.of_one(steps, [0, 0, 2, 1, 5, 2, 5, 4]), [6, 1, 1, 1, 1, 1, 0])
        self.assertEqual(self.of_one(steps, [0, 1, 5, 4, 0]), [6, 1, 1, 0, 0, 0, 0])

    def test_a_rating_is_a_step_too(self):
        rows = [call("record", 0, 7, 0, 3, 8), call("record", 0, 7, 0, 1, 0)]
        self.assertEqual(last(*START, *rows, call("funnel", 0, 9, [3, 1])), [2, 1, 1])

    def test_one_kind_twice(self):
        self.assertEqual(self.of_one([0, 0], [0]), [2, 1, 0])
        self.assertEqual(self.of_one([0, 0], [0, 0]), [2, 1, 1])
        self.assertEqual(self.of_one([0, 0, 1], [0, 1, 0]), [3, 1, 1, 0])
        self.assertEqual(self.of_one([0, 1, 0], [0, 1, 0]), [3, 1, 1, 1])
        self.assertEqual(self.of_one([5] * 6, [5] * 5), [6, 1, 1, 1, 1, 1, 0])

    def test_the_earliest_events_that_reach_a_step(self):
        self.assertEqual(self.of_one([0, 1, 2], [0, 1, 0, 2]), [3, 1, 1, 1])
        self.assertEqual(self.of_one([0, 1, 2], [0, 1, 2, 0, 1]), [3, 1, 1, 1])
        self.assertEqual(self.of_one([0, 1, 2, 1], [0, 1, 0, 2, 0, 1]), [4, 1, 1, 1, 1])
        self.assertEqual(self.of_one([0, 1, 2], [1, 2, 0, 2, 1]), [3, 1, 1, 0])

    def test_each_pair_on_its_own(self):
        rows = [(0, 7, 0), (0, 7, 1), (0, 3, 0), (0, 3, 1, 4), (1, 7, 0, 4), (1, 5, 0, 4)]
        self.assertEqual(self.told([0, 4], *rows), [2, 3, 1])
        self.assertEqual(self.told([4], *rows), [1, 3])

    def test_sessions_do_not_matter(self):
        self.assertEqual(self.told([0, 4], (0, 7, 0), (9999, 7, 0, 4)), [2, 1, 1])

    def test_the_ends_of_the_interval(self):
        rows = [(10, 7, 0), (20, 7, 0, 4)]
        self.assertEqual(self.told([0, 4], *rows, low=10, high=21), [2, 1, 1])
        self.assertEqual(self.told([0, 4], *rows, low=10, high=20), [2, 1, 0])
        self.assertEqual(self.told([0, 4], *rows, low=11, high=21), [2, 0, 0])
        self.assertEqual(self.told([0, 4], *rows, low=0, high=10), [2, 0, 0])

    def test_low_above_high(self):
        rows = [(10, 7, 0), (20, 7, 0, 4)]
        self.assertEqual(self.told([0, 4], *rows, low=21, high=10), [2, 0, 0])
        self.assertEqual(self.told([0, 4], *rows, low=10, high=10), [2, 0, 0])
        self.assertEqual(self.told([0, 4], *rows, low=OVER, high=0), [2, 0, 0])

    def test_withdrawn_items_too(self):
        self.assertEqual(last(*START, *met((0, 7, 0)), call("set_withdrawn", 0, 1), call("funnel", 0, 9, [0])), [1, 1])

    def test_no_events(self):
        for length in range(1, 7):
            self.assertEqual(last(create(), call("funnel", 0, OVER, [5] * length)), [length] + [0] * length)

    def test_kinds_outside_their_limits(self):
        rows = [(0, 7, 0)]
        self.assertEqual(self.told([], *rows), OUTSIDE)
        self.assertEqual(self.told([6], *rows), OUTSIDE)
        self.assertEqual(self.told([0, 6], *rows), OUTSIDE)
        self.assertEqual(self.told([0, 1, 2, 3, 4, 6], *rows), OUTSIDE)
        self.assertEqual(self.told([OVER, 0], *rows), OUTSIDE)
        self.assertEqual(self.told([0, 1, 2, 3, 4, 5], *rows), [6, 1, 0, 0, 0, 0, 0])

    def test_more_than_six_kinds_do_not_fit(self):
        # No call is handed in with so many, so this asks the check itself.
        self.assertEqual([kinds_fit([0] * 6), kinds_fit([0] * 7)], [True, False])

    def test_kinds_outside_their_limits_in_an_empty_interval(self):
        self.assertEqual(self.told([6], low=5, high=0), OUTSIDE)
        self.assertEqual(self.told([], low=5, high=0), OUTSIDE)


class GapOfTheStore(unittest.TestCase):
    def test_a_new_store_has_its_own_gap(self):
        rows = REST + met((0, 7, 0), (10, 7, 1))
        self.assertEqual(last(create(0, 10), *rows, call("sessions", 7)), [1, 0, 10, 2, 2])
        self.assertEqual(last(create(0, 10), create(0, 9), *rows, call("sessions", 7)), [2, 0, 0, 1, 1, 10, 10, 1, 1])
        self.assertEqual(last(create(0, 10, WEIGHTS), create(0, 10001), *rows, call("sessions", 7)), [1, 0, 10, 2, 2])


if __name__ == "__main__":
    unittest.main()
