import unittest

from helper import IMPOSSIBLE, MISSING, OUTSIDE, OVER, add_item, call, create, last, run

MEMBERS = [call("add_member", member, 0) for member in range(5)]
START = [create(), add_item(), add_item(), add_item(), add_item()] + MEMBERS


def rated(*pairs):
    """Ratings of item 0: a member and a value each."""
    return [call("record", 0, member, 0, 3, value) for member, value in pairs]


class Ratings(unittest.TestCase):
    def told(self, *pairs):
        return last(*START, *rated(*pairs), call("ratings", 0))

    def test_one(self):
        self.assertEqual(self.told((0, 7)), [1, 7, 1, 0, 1])

    def test_zero_is_0_1(self):
        self.assertEqual(self.told((0, 7), (1, 7), (2, 7)), [3, 7, 1, 0, 1])

    def test_lowest_terms(self):
        self.assertEqual(self.told((0, 1), (1, 2)), [2, 3, 2, 1, 4])
        self.assertEqual(self.told((0, 1), (1, 1), (2, 2)), [3, 4, 3, 2, 9])
        self.assertEqual(self.told((0, 1), (1, 3), (2, 5), (3, 7)), [4, 4, 1, 5, 1])
        self.assertEqual(self.told((0, 1), (1, 10), (2, 1), (3, 10)), [4, 11, 2, 81, 4])
        self.assertEqual(self.told((0, 1), (1, 1), (2, 1), (3, 3)), [4, 3, 2, 3, 4])

    def test_the_last_of_each_member(self):
        self.assertEqual(self.told((0, 1), (1, 2), (0, 9), (0, 4)), [2, 3, 1, 1, 1])

    def test_only_ratings_of_the_item(self):
        self.assertEqual(last(*START, *rated((0, 4)), call("record", 0, 1, 1, 3, 9), call("record", 0, 0, 0, 1, 0),
                              call("record", 0, 2, 0, 4, 0), call("ratings", 0)), [1, 4, 1, 0, 1])

    def test_a_withdrawn_item(self):
        self.assertEqual(last(*START, *rated((0, 4)), call("set_withdrawn", 0, 1), call("ratings", 0)), [1, 4, 1, 0, 1])

    def test_errors_in_order(self):
        self.assertEqual(last(*START, call("ratings", 4)), MISSING)
        self.assertEqual(last(*START, call("ratings", OVER)), MISSING)
        self.assertEqual(last(*START, call("ratings", 0)), IMPOSSIBLE)
        self.assertEqual(last(*START, call("record", 0, 0, 0, 1, 0), call("ratings", 0)), IMPOSSIBLE)


class Popularity(unittest.TestCase):
    def told(self, time, half_life, *events):
        calls = [call("record", at, 0, 0, kind, 0) for at, kind in events]
        return last(*START, *calls, call("popularity", 0, time, half_life))

    def test_no_events_is_0_1(self):
        self.assertEqual(self.told(0, 1), [0, 0, 1])
        self.assertEqual(self.told(100000000, OVER), [0, 0, 1])

    def test_events_of_weight_zero(self):
        self.assertEqual(self.told(5, 1, (0, 2), (1, 5)), [0, 0, 1])

    def test_halves_at_each_half_life(self):
        self.assertEqual(self.told(109, 10, (100, 4)), [0, 10, 1])
        self.assertEqual(self.told(110, 10, (100, 4)), [0, 5, 1])
        self.assertEqual(self.told(119, 10, (100, 4)), [0, 5, 1])
        self.assertEqual(self.told(120, 10, (100, 4)), [0, 5, 2])

    def test_later_events_do_not_count(self):
        self.assertEqual(self.told(99, 10, (100, 4)), [0, 0, 1])
        self.assertEqual(self.told(100, 10, (100, 4), (101, 4)), [0, 10, 1])

    def test_forty_halvings_and_one_more(self):
        self.assertEqual(self.told(40, 1, (0, 0)), [0, 1, 1 << 40])
        self.assertEqual(self.told(41, 1, (0, 0)), [0, 0, 1])
        self.assertEqual(self.told(409, 10, (0, 4)), [0, 5, 1 << 39])
        self.assertEqual(self.told(410, 10, (0, 4)), [0, 0, 1])

    def test_sums_exactly(self):
        self.assertEqual(self.told(40, 1, (0, 0), (40, 4)), [0, 10 * (1 << 40) + 1, 1 << 40])
        self.assertEqual(self.told(2, 1, (0, 1), (1, 0), (2, 0)), [0, 9, 4])

    def test_only_events_of_the_item(self):
        self.assertEqual(run(*START, call("record", 0, 0, 0, 0, 0), call("record", 0, 0, 1, 1, 0),
                             call("popularity", 0, 0, 1), call("popularity", 1, 0, 1))[12:], [[0, 1, 1], [0, 3, 1]])

    def test_a_withdrawn_item(self):
        self.assertEqual(last(*START, call("record", 0, 0, 0, 0, 0), call("set_withdrawn", 0, 1),
                              call("popularity", 0, 0, 1)), [0, 1, 1])

    def test_greatest_numbers(self):
        self.assertEqual(last(create(0, 0, [1000] * 6), add_item(), call("add_member", 0, 0),
                              call("record", 100000000, 0, 0, 0, 0), call("popularity", 0, 100000000, OVER)),
                         [0, 1000, 1])

    def test_limits(self):
        self.assertEqual(self.told(100000000, 1), [0, 0, 1])
        self.assertEqual(self.told(100000001, 1), OUTSIDE)
        self.assertEqual(self.told(0, 0), OUTSIDE)
        self.assertEqual(self.told(5, 0, (0, 4)), OUTSIDE)

    def test_no_such_item_comes_first(self):
        self.assertEqual(last(*START, call("popularity", 4, 0, 1)), MISSING)
        self.assertEqual(last(*START, call("popularity", 4, 100000001, 0)), MISSING)


class TopItems(unittest.TestCase):
    def told(self, count, *events, time=100, half_life=10):
        calls = [call("record", at, 0, item, kind, 0) for at, item, kind in events]
        return last(*START, *calls, call("top_items", time, half_life, count))

    def test_none(self):
        self.assertEqual(self.told(5), [0])
        self.assertEqual(last(create(), call("top_items", 0, 1, 5)), [0])

    def test_the_greatest_first(self):
        self.assertEqual(self.told(9, (100, 0, 0), (100, 1, 4), (100, 3, 1)), [3, 1, 3, 0])

    def test_ties_by_the_smaller_number(self):
        self.assertEqual(self.told(9, (100, 3, 1), (100, 2, 4), (100, 1, 1), (100, 0, 0)), [4, 2, 1, 3, 0])
        self.assertEqual(self.told(1, (100, 3, 1), (100, 1, 1)), [1, 1])

    def test_a_tie_of_different_sums(self):
        self.assertEqual(self.told(9, (90, 2, 0), (90, 2, 0), (100, 1, 0), (100, 3, 0)), [3, 1, 2, 3])

    def test_the_least_difference_decides(self):
        self.assertEqual(self.told(9, (0, 2, 0), (40, 1, 4), (40, 2, 4), time=40, half_life=1), [2, 2, 1])

    def test_popularity_zero_is_left_out(self):
        self.assertEqual(self.told(9, (0, 0, 4), (90, 2, 2), (100, 1, 0), (101, 3, 4), half_life=2), [1, 1])

    def test_the_least_popularity_is_listed(self):
        self.assertEqual(self.told(9, (60, 2, 0)), [1, 2])
        self.assertEqual(self.told(9, (60, 2, 0), half_life=1), [1, 2])
        self.assertEqual(self.told(9, (59, 2, 0), half_life=1), [0])

    def test_as_many_as_asked_for(self):
        events = [(100, 0, 0), (100, 1, 4), (100, 3, 1)]
        self.assertEqual(self.told(0, *events), [0])
        self.assertEqual(self.told(1, *events), [1, 1])
        self.assertEqual(self.told(2, *events), [2, 1, 3])
        self.assertEqual(self.told(3, *events), [3, 1, 3, 0])
        self.assertEqual(self.told(OVER, *events), [3, 1, 3, 0])

    def test_withdrawn_items_are_left_out(self):
        start = START + [call("record", 0, 0, 0, 4, 0), call("record", 0, 0, 1, 1, 0), call("record", 0, 0, 2, 0, 0),
                         call("set_withdrawn", 0, 1)]
        self.assertEqual(last(*start, call("top_items", 0, 1, 1)), [1, 1])
        self.assertEqual(last(*start, call("top_items", 0, 1, 9)), [2, 1, 2])
        self.assertEqual(last(*start, call("set_withdrawn", 0, 0), call("top_items", 0, 1, 9)), [3, 0, 1, 2])

    def test_limits(self):
        self.assertEqual(self.told(9, time=100000000, half_life=1), [0])
        self.assertEqual(self.told(9, time=100000000, half_life=OVER), [0])
        self.assertEqual(self.told(9, time=100000001), OUTSIDE)
        self.assertEqual(self.told(0, time=0, half_life=0), OUTSIDE)


class Trending(unittest.TestCase):
    def told(self, time, window, count, *events, withdrawn=()):
        """The answer after events of member 0: a time, an item and a kind each."""
        calls = [call("record", at, 0, item, kind, 0) for at, item, kind in events]
        hidden = [call("set_withdrawn", item, 1) for item in withdrawn]
        return last(*START, *calls, *hidden, call("trending", time, window, count))

    def test_none(self):
        self.assertEqual(self.told(100, 10, 9), [0])
        self.assertEqual(last(create(), call("trending", 0, 1, 9)), [0])

    def test_the_bounds_of_the_last_window(self):
        events = [(89, 0, 0), (90, 1, 0), (99, 2, 0), (100, 3, 0)]
        self.assertEqual(self.told(100, 10, 9, *events), [2, 1, 2])
        self.assertEqual(self.told(99, 10, 9, *events), [2, 0, 1])
        self.assertEqual(self.told(101, 10, 9, *events), [2, 2, 3])

    def test_the_bounds_of_the_earlier_window(self):
        # Items 0 to 2 weigh the same in the last window; what is inside the earlier one puts its item behind.
        late = [(95, 0, 0), (95, 1, 0), (95, 2, 0)]
        self.assertEqual(self.told(100, 10, 9, (79, 0, 0), *late), [3, 0, 1, 2])
        self.assertEqual(self.told(100, 10, 9, (80, 0, 0), *late), [3, 1, 2, 0])
        self.assertEqual(self.told(100, 10, 9, (89, 0, 0), *late), [3, 1, 2, 0])
        self.assertEqual(self.told(100, 10, 9, (90, 1, 0), *late), [3, 1, 0, 2])

    def test_growth_and_not_weight_decides(self):
        # Growths 11 / 5, 4 / 1 and 2 / 1.
        events = [(5, 0, 1), (5, 0, 0), (15, 0, 4), (15, 1, 1), (15, 2, 0)]
        self.assertEqual(self.told(20, 10, 9, *events), [3, 1, 0, 2])

    def test_a_growth_below_one_is_listed(self):
        self.assertEqual(self.told(20, 10, 9, (5, 0, 4), (15, 0, 0), (15, 3, 1)), [2, 3, 0])

    def test_ties_by_the_smaller_number(self):
        self.assertEqual(self.told(20, 10, 9, (15, 3, 1), (15, 1, 1), (15, 2, 4)), [3, 2, 1, 3])
        self.assertEqual(self.told(20, 10, 1, (15, 3, 1), (15, 1, 1)), [1, 1])

    def test_a_tie_of_different_fractions(self):
        # 4 / 2 and 2 / 1 are the same, and so are 4 / 4 and 2 / 2.
        self.assertEqual(self.told(20, 10, 9, (5, 3, 0), (15, 3, 1), (15, 1, 0)), [2, 1, 3])
        self.assertEqual(self.told(20, 10, 9, (5, 1, 0), (15, 3, 0), (15, 1, 1)), [2, 1, 3])
        self.assertEqual(self.told(20, 10, 9, (5, 3, 1), (5, 1, 0), (15, 3, 1), (15, 1, 0)), [2, 1, 3])

    def test_the_least_difference_decides(self):
        # 999 / 1000 and 1000 / 1001 lie close together, and so do 2 / 1001 and 2 / 1000: the greater one comes first.
        for weights, kinds in (([999, 1000, 998, 0, 0, 0], (0, 1, 2, 0)), ([1000, 999, 1, 0, 0, 0], (0, 1, 2, 2))):
            start = [create(0, 0, weights), add_item(), add_item(), call("add_member", 0, 0)]
            rows = [call("record", 0, 0, 0, kinds[0], 0), call("record", 0, 0, 1, kinds[1], 0),
                    call("record", 9, 0, 0, kinds[2], 0), call("record", 9, 0, 1, kinds[3], 0)]
            self.assertEqual(last(*start, *rows, call("trending", 10, 5, 9)), [2, 1, 0])

    def test_times_that_would_be_negative(self):
        self.assertEqual(self.told(10, 11, 9, (0, 2, 0), (9, 1, 1), (10, 0, 0)), [2, 1, 2])
        self.assertEqual(self.told(10, 8, 9, (0, 1, 0), (2, 2, 0), (2, 1, 0), (10, 0, 0)), [2, 2, 1])
        self.assertEqual(self.told(10, 10, 9, (0, 2, 0)), [1, 2])
        self.assertEqual(self.told(10, OVER, 9, (0, 2, 0)), [1, 2])

    def test_at_time_zero(self):
        self.assertEqual(self.told(0, 1, 9, (0, 2, 0)), [0])
        self.assertEqual(self.told(0, OVER, 9, (0, 2, 0)), [0])
        self.assertEqual(self.told(1, 1, 9, (0, 2, 0)), [1, 2])

    def test_a_last_weight_of_zero_is_left_out(self):
        self.assertEqual(self.told(20, 10, 9, (5, 0, 4), (15, 1, 2), (15, 2, 5), (15, 3, 0)), [1, 3])

    def test_withdrawn_items_are_left_out(self):
        events = [(15, 0, 4), (15, 1, 1), (15, 2, 0)]
        self.assertEqual(self.told(20, 10, 9, *events, withdrawn=[0]), [2, 1, 2])
        self.assertEqual(self.told(20, 10, 1, *events, withdrawn=[0]), [1, 1])
        self.assertEqual(self.told(20, 10, 9, *events, withdrawn=[0, 1, 2]), [0])

    def test_as_many_as_asked_for(self):
        events = [(15, 0, 0), (15, 1, 4), (15, 3, 1)]
        for count, expected in ((0, [0]), (1, [1, 1]), (2, [2, 1, 3]), (3, [3, 1, 3, 0]), (OVER, [3, 1, 3, 0])):
            self.assertEqual(self.told(20, 10, count, *events), expected)

    def test_events_of_all_members(self):
        self.assertEqual(last(*START, call("record", 15, 1, 2, 0, 0), call("record", 15, 4, 1, 0, 0),
                              call("record", 16, 3, 2, 0, 0), call("trending", 20, 10, 9)), [2, 2, 1])

    def test_limits(self):
        self.assertEqual(self.told(100000000, 1, 9, (99999999, 2, 0)), [1, 2])
        self.assertEqual(self.told(100000000, OVER, 9), [0])
        self.assertEqual(self.told(100000001, 1, 9), OUTSIDE)
        self.assertEqual(self.told(20, 0, 9, (15, 0, 0)), OUTSIDE)
        self.assertEqual(self.told(0, 0, 0), OUTSIDE)


if __name__ == "__main__":
    unittest.main()
