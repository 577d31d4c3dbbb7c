import unittest

from helper import FULL, MISSING, OUTSIDE, OVER, add_item, call, create, last, run, small_store


class AddItem(unittest.TestCase):
    def added(self, *values):
        return last(create(), call("add_item", *values))

    def test_numbers_from_zero(self):
        self.assertEqual(run(create(), add_item(), add_item(1), add_item())[1:], [[0], [1], [2]])

    def test_limits_of_creator(self):
        self.assertEqual(self.added(1000, 0, 0), [0])
        self.assertEqual(self.added(1001, 0, 0), OUTSIDE)

    def test_limits_of_price(self):
        self.assertEqual(self.added(0, 1000000, 0), [0])
        self.assertEqual(self.added(0, 1000001, 0), OUTSIDE)

    def test_limits_of_day(self):
        self.assertEqual(self.added(0, 0, 100000), [0])
        self.assertEqual(self.added(0, 0, 100001), OUTSIDE)

    def test_how_many_categories(self):
        for length in range(7):
            with self.subTest(length):
                self.assertEqual(self.added(0, 0, 0, list(range(length))), [0] if length <= 4 else OUTSIDE)

    def test_limits_of_a_category(self):
        self.assertEqual(self.added(0, 0, 0, [0, 31]), [0])
        self.assertEqual(self.added(0, 0, 0, [32]), OUTSIDE)
        self.assertEqual(self.added(0, 0, 0, [0, 1, 2, 32]), OUTSIDE)
        self.assertEqual(self.added(0, 0, 0, [OVER]), OUTSIDE)

    def test_categories_increase_strictly(self):
        for bad in ([5, 5], [6, 5], [1, 2, 2], [1, 3, 2], [1, 2, 3, 3], [1, 2, 4, 3], [3, 1, 2]):
            with self.subTest(bad):
                self.assertEqual(self.added(0, 0, 0, bad), OUTSIDE)

    def test_forty_items(self):
        found = run(*([create()] + [add_item()] * 41))
        self.assertEqual(found[40:], [[39], FULL])

    def test_limits_before_the_number_of_items(self):
        full = [create()] + [add_item()] * 40
        self.assertEqual(last(*full, call("add_item", 1001, 0, 0)), OUTSIDE)
        self.assertEqual(last(*full, add_item(9, 9)), OUTSIDE)
        self.assertEqual(last(*full, add_item(9)), FULL)

    def test_withdrawn_items_count_too(self):
        self.assertEqual(last(*([create()] + [add_item()] * 40), call("set_withdrawn", 0, 1), add_item()), FULL)


class SetPrice(unittest.TestCase):
    def test_old_price(self):
        self.assertEqual(run(create(), add_item(), add_item(), call("set_price", 0, 3), call("set_price", 0, 4),
                             call("set_price", 1, 5), call("item_info", 0), call("item_info", 1))[3:],
                         [[900], [3], [900], [1, 4, 5, 0, 0], [1, 5, 5, 0, 0]])

    def test_limits_of_price(self):
        self.assertEqual(run(create(), add_item(), call("set_price", 0, 0), call("set_price", 0, 1000000),
                             call("set_price", 0, 1000001), call("set_price", 0, OVER), call("set_price", 0, 1))[2:],
                         [[900], [0], OUTSIDE, OUTSIDE, [1000000]])

    def test_no_such_item_comes_first(self):
        self.assertEqual(run(create(), call("set_price", 0, 0), add_item(), call("set_price", 1, 1000001),
                             call("set_price", OVER, 0))[1:], [MISSING, [0], MISSING, MISSING])

    def test_a_withdrawn_item(self):
        self.assertEqual(last(*small_store(), call("set_price", 2, 1)), [900])


class SetWithdrawn(unittest.TestCase):
    def test_old_flag(self):
        self.assertEqual(run(create(), add_item(), add_item(), call("set_withdrawn", 0, 0),
                             call("set_withdrawn", 0, 1), call("set_withdrawn", 0, 1), call("item_info", 0),
                             call("item_info", 1), call("set_withdrawn", 0, 0), call("set_withdrawn", 0, 0))[3:],
                         [[0], [0], [1], [1, 900, 5, 1, 0], [1, 900, 5, 0, 0], [1], [0]])

    def test_limits_of_flag(self):
        self.assertEqual(run(create(), add_item(), call("set_withdrawn", 0, 2), call("set_withdrawn", 0, OVER),
                             call("set_withdrawn", 0, 0))[2:], [OUTSIDE, OUTSIDE, [0]])

    def test_no_such_item_comes_first(self):
        self.assertEqual(run(create(), add_item(), call("set_withdrawn", 1, 2), call("set_withdrawn", 1, 1))[2:],
                         [MISSING, MISSING])


class ItemInfo(unittest.TestCase):
    def test_all_that_was_given(self):
        self.assertEqual(run(create(), call("add_item", 1000, 1000000, 100000, [0, 1, 30, 31]),
                             call("add_item", 0, 0, 0), call("item_info", 0), call("item_info", 1))[3:],
                         [[1000, 1000000, 100000, 0, 4, 0, 1, 30, 31], [0, 0, 0, 0, 0]])

    def test_no_such_item(self):
        self.assertEqual(run(create(), call("item_info", 0), add_item(), call("item_info", 0), call("item_info", 1),
                             call("item_info", 40), call("item_info", OVER))[3:],
                         [[1, 900, 5, 0, 0], MISSING, MISSING, MISSING])
        self.assertEqual(last(create(), call("item_info", 0)), MISSING)

    def test_an_added_item_keeps_its_own_data(self):
        self.assertEqual(run(create(), call("add_item", 1, 2, 3, [4]), call("add_item", 5, 6, 7, [8]),
                             call("item_info", 0), call("item_info", 1))[3:], [[1, 2, 3, 0, 1, 4], [5, 6, 7, 0, 1, 8]])


if __name__ == "__main__":
    unittest.main()
