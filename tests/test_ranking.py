import unittest

from helper import IMPOSSIBLE, MISSING, OUTSIDE, OVER, add_item, call, create, last, run

MEMBERS = [call("add_member", member, 0) for member in range(5)]
START = [create(), add_item(), add_item(), add_item(), add_item()] + MEMBERS


def rated(*pairs):
    """Ratings of item 0: a member and a value each."""
    return [call("record", 0, member, 0, 3, value) for member, value in pairs]


class Ratings(unittest.TestCase):
    def told(self, *pairs):
        return last(*START, *rated(*pairs), call("ratings", 0))

    def test_one(self):
        self.assertEqual(self.told((0, 7)), [1, 7, 1, 0, 1])

    def test_zero_is_0_1(self):
        self.assertEqual(self.told((0, 7), (1, 7), (2, 7)), [3, 7, 1, 0, 1])

    def test_lowest_terms(self):
        self.assertEqual(self.told((0, 1), (1, 2)), [2, 3, 2, 1, 4])
        self.assertEqual(self.told((0, 1), (1, 1), (2, 2)), [3, 4, 3, 2, 9])
        self.assertEqual(self.told((0, 1), (1, 3), (2, 5), (3, 7)), [4, 4, 1, 5, 1])
        self.assertEqual(self.told((0, 1), (1, 10), (2, 1), (3, 10)), [4, 11, 2, 81, 4])
        self.assertEqual(self.told((0, 1), (1, 1), (2, 1), (3, 3)), [4, 3, 2, 3, 4])

    def test_the_last_of_each_member(self):
        self.assertEqual(self.told((0, 1), (1, 2), (0, 9), (0, 4)), [2, 3, 1, 1, 1])

    def test_only_ratings_of_the_item(self):
        self.assertEqual(last(*START, *rated((0, 4)), call("record", 0, 1, 1, 3, 9), call("record", 0, 0, 0, 1, 0),
                              call("record", 0, 2, 0, 4, 0), call("ratings", 0)), [1, 4, 1, 0, 1])

    def test_a_withdrawn_item(self):
        self.assertEqual(last(*START, *rated((0, 4)), call("set_withdrawn", 0, 1), call("ratings", 0)), [1, 4, 1, 0, 1])

    def test_errors_in_order(self):
        self.assertEqual(last(*START, call("ratings", 4)), MISSING)
        self.assertEqual(last(*START, call("ratings", OVER)), MISSING)
        self.assertEqual(last(*START, call("ratings", 0)), IMPOSSIBLE)
        self.assertEqual(last(*START, call("record", 0, 0, 0, 1, 0), call("ratings", 0)), IMPOSSIBLE)


class Popularity(unittest.TestCase):
    def told(self, time, half_life, *events):
        calls = [call("record", at, 0, 0, kind, 0) for at, kind in events]
        return last(*START, *calls, call("popularity", 0, time, half_life))

    def test_no_events_is_0_1(self):
        self.assertEqual(self.told(0, 1), [0, 0, 1])
        self.assertEqual(self.told(100000000, OVER), [0, 0, 1])

    def test_events_of_weight_zero(self):
        self.assertEqual(self.told(5, 1, (0, 2), (1, 5)), [0, 0, 1])

    def test_halves_at_each_half_life(self):
        self.assertEqual(self.told(109, 10, (100, 4)), [0, 10, 1])
        self.assertEqual(self.told(110, 10, (100, 4)), [0, 5, 1])
        self.assertEqual(self.told(119, 10, (100, 4)), [0, 5, 1])
        self.assertEqual(self.told(120, 10, (100, 4)), [0, 5, 2])

    def test_later_events_do_not_count(self):
        self.assertEqual(self.told(99, 10, (100, 4)), [0, 0, 1])
        self.assertEqual(self.told(100, 10, (100, 4), (101, 4)), [0, 10, 1])

    def test_forty_halvings_and_one_more(self):
        self.assertEqual(self.told(40, 1, (0, 0)), [0, 1, 1 << 40])
        self.assertEqual(self.told(41, 1, (0, 0)), [0, 0, 1])
        self.assertEqual(self.told(409, 10, (0, 4)), [0, 5, 1 << 39])
        self.assertEqual(self.told(410, 10, (0, 4)), [0, 0, 1])

    def test_sums_exactly(self):
        self.assertEqual(self.told(40, 1, (0, 0), (40, 4)), [0, 10 * (1 << 40) + 1, 1 << 40])
        self.assertEqual(self.told(2, 1, (0, 1), (1, 0), (2, 0)), [0, 9, 4])

    def test_only_events_of_the_item(self):
        self.assertEqual(run(*START, call("record", 0, 0, 0, 0, 0), call("record", 0, 0, 1, 1, 0),
                             call("popularity", 0, 0, 1), call("popularity", 1, 0, 1))[12:], [[0, 1, 1], [0, 3, 1]])

    def test_a_withdrawn_item(self):
        self.assertEqual(last(*START, call("record", 0, 0, 0, 0, 0), call("set_withdrawn", 0, 1),
                              call("popularity", 0, 0, 1)), [0, 1, 1])

    def test_greatest_numbers(self):
        self.assertEqual(last(create(0, 0, [1000] * 6), add_item(), call("add_member", 0, 0),
                              call("record", 100000000, 0, 0, 0, 0), call("popularity", 0, 100000000, OVER)),
                         [0, 1000, 1])

    def test_limits(self):
        self.assertEqual(self.told(100000000, 1), [0, 0, 1])
        self.assertEqual(self.told(100000001, 1), OUTSIDE)
        self.assertEqual(self.told(0, 0), OUTSIDE)
        self.assertEqual(self.told(5, 0, (0, 4)), OUTSIDE)

    def test_no_such_item_comes_first(self):
        self.assertEqual(last(*START, call("popularity", 4, 0, 1)), MISSING)
        self.assertEqual(last(*START, call("popularity", 4, 100000001, 0)), MISSING)


class TopItems(unittest.TestCase):
    def told(self, count, *events, time=100, half_life=10):
        calls = [call("record", at, 0, item, kind, 0) for at, item, kind in events]
        return last(*START, *calls, call("top_items", time, half_life, count))

    def test_none(self):
        self.assertEqual(self.told(5), [0])
        self.assertEqual(last(create(), call("top_items", 0, 1, 5)), [0])

    def test_the_greatest_first(self):
        self.assertEqual(self.told(9, (100, 0, 0), (100, 1, 4), (100, 3, 1)), [3, 1, 3, 0])

    def test_ties_by_the_smaller_number(self):
        self.assertEqual(self.told(9, (100, 3, 1), (100, 2, 4), (100, 1, 1), (100, 0, 0)), [4, 2, 1, 3, 0])
        self.assertEqual(self.told(1, (100, 3, 1), (100, 1, 1)), [1, 1])

    def test_a_tie_of_different_sums(self):
        self.assertEqual(self.told(9, (90, 2, 0), (90, 2, 0), (100, 1, 0), (100, 3, 0)), [3, 1, 2, 3])

    def test_the_least_difference_decides(self):
        self.assertEqual(self.told(9, (0, 2, 0), (40, 1, 4), (40, 2, 4), time=40, half_life=1), [2, 2, 1])

    def test_popularity_zero_is_left_out(self):
        self.assertEqual(self.told(9, (0, 0, 4), (90, 2, 2), (100, 1, 0), (101, 3, 4), half_life=2), [1, 1])

    def test_the_least_popularity_is_listed(self):
        self.assertEqual(self.told(9, (60, 2, 0)), [1, 2])
        self.assertEqual(self.told(9, (60, 2, 0), half_life=1), [1, 2])
        self.assertEqual(self.told(9, (59, 2, 0), half_life=1), [0])

    def test_as_many_as_asked_for(self):
        events = [(100, 0, 0), (100, 1, 4), (100, 3, 1)]
        self.assertEqual(self.told(0, *events), [0])
        self.assertEqual(self.told(1, *events), [1, 1])
        self.assertEqual(self.told(2, *events), [2, 1, 3])
        self.assertEqual(self.told(3, *events), [3, 1, 3, 0])
        self.assertEqual(self.told(OVER, *events), [3, 1, 3, 0])

    def test_withdrawn_items_are_left_out(self):
        start = START + [call("record", 0, 0, 0, 4, 0), call("record", 0, 0, 1, 1, 0), call("record", 0, 0, 2, 0, 0),
                         call("set_withdrawn", 0, 1)]
        self.assertEqual(last(*start, call("top_items", 0, 1, 1)), [1, 1])
        self.assertEqual(last(*start, call("top_items", 0, 1, 9)), [2, 1, 2])
        self.assertEqual(last(*start, call("set_withdrawn", 0, 0), call("top_items", 0, 1, 9)), [3, 0, 1, 2])

    def test_limits(self):
        self.assertEqual(self.told(9, time=100000000, half_life=1), [0])
        self.assertEqual(self.told(9, time=100000000, half_life=OVER), [0])
        self.assertEqual(self.told(9, time=100000001), OUTSIDE)
        self.assertEqual(self.told(0, time=0, half_life=0), OUTSIDE)


if __name__ == "__main__":
    unittest.main()
