import unittest

from helper import FULL, MISSING, OUTSIDE, OVER, TAKEN, add_item, call, create, last, run, small_store


class AddMember(unittest.TestCase):
    def test_number_of_members(self):
        self.assertEqual(run(create(), call("add_member", 9, 0), call("add_member", 3, 0),
                             call("add_member", 0, 0))[1:],
                         [[1], [2], [3]])

    def test_limits_of_member(self):
        self.assertEqual(run(create(), call("add_member", 1000000, 0), call("add_member", 1000001, 0),
                             call("add_member", OVER, 0))[1:], [[1], OUTSIDE, OUTSIDE])

    def test_limits_of_day(self):
        self.assertEqual(run(create(), call("add_member", 1, 100000), call("add_member", 2, 100001))[1:],
                         [[1], OUTSIDE])

    def test_a_number_once(self):
        self.assertEqual(run(create(), call("add_member", 1, 5), call("add_member", 1, 6), call("member_info", 1))[1:],
                         [[1], TAKEN, [5, 0, 0, 0]])

    def test_limits_before_a_taken_number(self):
        self.assertEqual(last(create(), call("add_member", 1, 5), call("add_member", 1, 100001)), OUTSIDE)

    def test_forty_members_and_the_order_of_errors(self):
        full = [create()] + [call("add_member", member, 0) for member in range(100, 140)]
        self.assertEqual(run(*full)[40], [40])
        self.assertEqual(last(*full, call("add_member", 1, 0)), FULL)
        self.assertEqual(last(*full, call("add_member", 139, 0)), TAKEN)
        self.assertEqual(last(*full, call("add_member", 1000001, 0)), OUTSIDE)
        self.assertEqual(last(*full, call("add_member", 139, 100001)), OUTSIDE)
        self.assertEqual(run(*full, call("delete_member", 100), call("add_member", 1, 0),
                             call("add_member", 2, 0))[41:],
                         [[0], [40], FULL])


class DeleteMember(unittest.TestCase):
    def test_their_events_go_with_them(self):
        self.assertEqual(run(*small_store(), call("delete_member", 50), call("counts", 0, 0, OVER),
                             call("counts", 1, 0, OVER), call("member_info", 50), call("member_info", 20),
                             call("record", 200, 20, 0, 0, 0))[12:],
                         [[3], [6, 0, 0, 0, 1, 0, 0], [6, 0, 0, 0, 1, 0, 0], MISSING, [11, 2, 2, 126], [3]])

    def test_without_events(self):
        self.assertEqual(last(create(), call("add_member", 5, 0), call("delete_member", 5)), [0])

    def test_no_such_member(self):
        self.assertEqual(run(create(), call("delete_member", 0), call("add_member", 5, 0), call("delete_member", 6),
                             call("delete_member", OVER), call("delete_member", 5), call("delete_member", 5))[1:],
                         [MISSING, [1], MISSING, MISSING, [0], MISSING])

    def test_the_last_event_may_be_an_earlier_one_afterwards(self):
        start = [create(), add_item(), call("add_member", 5, 0), call("add_member", 6, 0),
                 call("record", 10, 5, 0, 0, 0), call("record", 20, 6, 0, 0, 0)]
        self.assertEqual(last(*start, call("record", 15, 5, 0, 0, 0)), OUTSIDE)
        self.assertEqual(run(*start, call("delete_member", 6), call("record", 9, 5, 0, 0, 0),
                             call("record", 10, 5, 0, 0, 0))[6:], [[1], OUTSIDE, [2]])

    def test_a_member_added_again_begins_anew(self):
        self.assertEqual(run(*small_store(), call("delete_member", 50), call("add_member", 50, 77),
                             call("member_info", 50))[12:], [[3], [2], [77, 0, 0, 0]])

    def test_ratings_and_popularity_as_without_them(self):
        self.assertEqual(run(*small_store(), call("delete_member", 20), call("ratings", 0), call("ratings", 1),
                             call("popularity", 0, 125, 1000), call("categories", 0, 200))[12:],
                         [[2], [-33], [-33], [0, 11, 1],
                          [32, 0, 0, 11, 0, 0, 0, 0, 14] + [0] * 24])


class MemberInfo(unittest.TestCase):
    def test_day_events_items_and_time(self):
        self.assertEqual(run(*small_store(), call("member_info", 50), call("member_info", 20))[12:],
                         [[10, 3, 2, 126], [11, 2, 2, 126]])

    def test_no_events(self):
        self.assertEqual(last(create(), call("add_member", 5, 100000), call("member_info", 5)), [100000, 0, 0, 0])

    def test_an_event_at_time_zero(self):
        self.assertEqual(last(create(), add_item(), call("add_member", 5, 1), call("record", 0, 5, 0, 0, 0),
                              call("member_info", 5)), [1, 1, 1, 1])

    def test_the_time_is_of_their_own_last_event(self):
        self.assertEqual(run(create(), add_item(), call("add_member", 5, 1), call("add_member", 6, 1),
                             call("record", 3, 5, 0, 0, 0), call("record", 8, 6, 0, 0, 0),
                             call("member_info", 5))[6:], [[1, 1, 1, 4]])

    def test_after_expire(self):
        self.assertEqual(run(*small_store(), call("expire", 100000), call("member_info", 50))[12:],
                         [[5], [10, 0, 0, 0]])

    def test_no_such_member(self):
        self.assertEqual(run(create(), call("add_member", 5, 0), call("member_info", 0), call("member_info", 6),
                             call("member_info", OVER))[2:], [MISSING, MISSING, MISSING])


if __name__ == "__main__":
    unittest.main()
