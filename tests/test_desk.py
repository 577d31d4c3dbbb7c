import unittest

from eventshelf.desk import answers
from helper import FULL, MISSING, NAMES, NO_STORE, OUTSIDE, OVER, TAKEN, WEIGHTS
from helper import add_item, call, create, flat, last, look, run, small_store

HOW_MANY = {"create": 8, "add_item": 3, "set_price": 2, "set_withdrawn": 2, "add_member": 2, "delete_member": 1,
            "record": 5, "expire": 1, "item_info": 1, "member_info": 1, "counts": 3, "ratings": 1, "popularity": 3,
            "top_items": 3, "categories": 2, "profile": 1, "history": 2, "sessions": 1, "together": 2,
            "common_members": 2, "conversion": 1, "funnel": 3, "trending": 3, "unseen": 1, "opinions": 1, "split": 1,
            "by_creator": 3, "digest": 0, "status": 0}


class Form(unittest.TestCase):
    def test_each_answer_stands_behind_its_length(self):
        handed = flat([create(), add_item(2, 7), add_item(), call("item_info", 0), call("item_info", 1),
                       call("item_info", 2), call("top_items", 0, 1, 5)])
        self.assertEqual(answers(handed), [1, 0, 1, 0, 1, 1, 7, 1, 900, 5, 0, 2, 2, 7, 5, 1, 900, 5, 0, 0, 1, -2, 1, 0])

    def test_a_single_call(self):
        self.assertEqual(answers([0, 8, 0, 0, 0, 0, 0, 0, 0, 0, 0]), [1, 0])
        self.assertEqual(answers([11, 1, 0, 0]), [1, -11])

    def test_plain_whole_numbers_are_given_back(self):
        told = answers(flat(small_store() + look()))
        self.assertIs(type(told), list)
        self.assertEqual({type(number) for number in told}, {int})

    def test_sixty_calls(self):
        found = run(*([create()] + [add_item()] * 40 + [call("add_member", m, 0) for m in range(19)]))
        self.assertEqual(found, [[0]] + [[n] for n in range(40)] + [[n] for n in range(1, 20)])

    def test_what_is_handed_in_stays_the_same(self):
        handed = flat(small_store() + look())
        before = list(handed)
        answers(handed)
        self.assertEqual(handed, before)

    def test_nothing_is_kept_from_one_list_to_the_next(self):
        handed = flat(small_store() + look())
        self.assertEqual(answers(handed), answers(handed))
        self.assertEqual(run(call("item_info", 0)), [NO_STORE])

    def test_what_is_given_back_is_new_each_time(self):
        handed = flat([call("item_info", 0), call("expire", 0)])
        answers(handed).append(7)
        self.assertEqual(answers(handed), [1, -11, 1, -11])


class NoStore(unittest.TestCase):
    def test_every_call_but_create(self):
        for name in NAMES[1:]:
            with self.subTest(name):
                self.assertEqual(run(call(name, [0] * HOW_MANY[name])), [NO_STORE])

    def test_before_all_other_checks(self):
        for name in NAMES[1:]:
            with self.subTest(name):
                self.assertEqual(run(call(name, [OVER] * HOW_MANY[name])), [NO_STORE])

    def test_a_refused_create_makes_no_store(self):
        self.assertEqual(run(create(10001), call("categories", 0, 9)), [OUTSIDE, NO_STORE])

    def test_a_store_made_late(self):
        self.assertEqual(run(add_item(), create(), add_item()), [NO_STORE, [0], [0]])


class Create(unittest.TestCase):
    def test_limits_of_retention(self):
        self.assertEqual(run(create(0), create(10000), create(10001), create(OVER)), [[0], [0], OUTSIDE, OUTSIDE])

    def test_limits_of_gap(self):
        self.assertEqual(run(create(0, 0), create(0, 10000), create(0, 10001), create(0, OVER)),
                         [[0], [0], OUTSIDE, OUTSIDE])

    def test_limits_of_each_weight(self):
        for place in range(6):
            with self.subTest(place):
                kept = [0] * 6
                kept[place] = 1000
                passed = [0] * 6
                passed[place] = 1001
                self.assertEqual(run(create(0, 0, kept), create(0, 0, passed)), [[0], OUTSIDE])

    def test_only_six_weights_will_do(self):
        for length in range(6):
            with self.subTest(length):
                self.assertEqual(run(create(0, 0, [1] * length)), [OUTSIDE])
        self.assertEqual(run(create(0, 0, [1] * 6)), [[0]])

    def test_a_new_store_is_empty(self):
        self.assertEqual(run(*small_store(), create(), call("item_info", 0), call("member_info", 50), add_item(),
                             call("add_member", 9, 0), call("record", 0, 9, 0, 0, 0))[12:],
                         [[0], MISSING, MISSING, [0], [1], [1]])

    def test_a_new_store_has_its_own_settings(self):
        calls = [create(1, 0, WEIGHTS), create(2, 0, [7, 0, 0, 0, 0, 0]), add_item(0), call("add_member", 9, 0),
                 call("record", 0, 9, 0, 0, 0)]
        self.assertEqual(last(*calls, call("popularity", 0, 0, 1)), [0, 7, 1])
        self.assertEqual(run(*calls, call("expire", 2879), call("expire", 2880))[5:], [[0], [1]])

    def test_a_refused_create_keeps_the_store(self):
        kept = run(*small_store(), *look())
        for bad in (create(10001), create(0, 10001), create(0, 0, [1001, 0, 0, 0, 0, 0]), create(0, 0, [])):
            with self.subTest(bad):
                found = run(*small_store(), bad, *look())
                self.assertEqual(found.pop(12), OUTSIDE)
                self.assertEqual(found, kept)


class Example(unittest.TestCase):
    def test_all_rows(self):
        in_profile = [0] * 32
        in_profile[2] = 13
        in_profile[7] = 16
        rows = [
            (create(0, 30, [1, 3, 0, 2, 10, 0]), [0]),
            (call("add_item", 1, 900, 5, [2, 7]), [0]),
            (call("add_item", 1, 500, 6, [7]), [1]),
            (call("add_member", 50, 10), [1]),
            (call("add_member", 20, 11), [2]),
            (call("add_member", 50, 12), TAKEN),
            (call("record", 100, 50, 0, 0, 0), [1]),
            (call("record", 110, 50, 1, 1, 0), [2]),
            (call("record", 120, 20, 0, 3, 8), [3]),
            (call("record", 125, 50, 0, 4, 0), [4]),
            (call("record", 200, 50, 0, 3, 5), [5]),
            (call("record", 199, 20, 0, 0, 0), OUTSIDE),
            (call("record", 300, 20, 0, 3, 7), [6]),
            (call("ratings", 0), [2, 6, 1, 1, 1]),
            (call("popularity", 0, 300, 100), [0, 37, 4]),
            (call("top_items", 300, 100, 5), [2, 0, 1]),
            (call("profile", 50), [32] + in_profile),
            (call("history", 50, 9), [2, 0, 1]),
            (call("sessions", 50), [2, 100, 125, 3, 2, 200, 200, 1, 1]),
            (call("together", 0, 3), [1, 1, 1]),
            (call("common_members", 0, 1), [1, 50]),
            (call("conversion", 0), [0, 1, 1]),
            (call("funnel", 0, 1000, [0, 4]), [2, 1, 1]),
            (call("trending", 301, 101, 3), [1, 0]),
            (call("opinions", 50), [2, 0, 5, 1, 10]),
            (call("set_withdrawn", 1, 1), [0]),
            (call("unseen", 20), [0]),
            (call("delete_member", 50), [4]),
            (call("status"), [2, 1, 1, 2, 300]),
            (call("delete_member", 50), MISSING),
        ]
        self.assertEqual(run(*[row[0] for row in rows]), [row[1] for row in rows])


class Unchanged(unittest.TestCase):
    """After each refusal the store answers as if the refused call had not been there."""

    REFUSED = [
        (call("add_item", 1001, 0, 0), OUTSIDE),
        (call("add_item", 0, 0, 0, [3, 3]), OUTSIDE),
        (call("set_price", 3, 1), MISSING),
        (call("set_price", 0, 1000001), OUTSIDE),
        (call("set_withdrawn", 3, 1), MISSING),
        (call("set_withdrawn", 0, 2), OUTSIDE),
        (call("add_member", 1000001, 1), OUTSIDE),
        (call("add_member", 7, 100001), OUTSIDE),
        (call("add_member", 50, 99), TAKEN),
        (call("delete_member", 7), MISSING),
        (call("record", 130, 7, 0, 0, 0), MISSING),
        (call("record", 130, 50, 3, 0, 0), MISSING),
        (call("record", 124, 50, 0, 0, 0), OUTSIDE),
        (call("record", 100000001, 50, 0, 0, 0), OUTSIDE),
        (call("record", 130, 50, 0, 6, 0), OUTSIDE),
        (call("record", 130, 50, 0, 3, 0), OUTSIDE),
        (call("record", 130, 50, 2, 4, 0), [-33]),
        (call("expire", 100000001), OUTSIDE),
        (call("item_info", 3), MISSING),
        (call("member_info", 7), MISSING),
        (call("counts", 3, 0, 9), MISSING),
        (call("ratings", 3), MISSING),
        (call("ratings", 2), [-33]),
        (call("popularity", 3, 0, 1), MISSING),
        (call("popularity", 0, 0, 0), OUTSIDE),
        (call("top_items", 0, 0, 1), OUTSIDE),
        (call("profile", 7), MISSING),
        (call("history", 7, 3), MISSING),
        (call("sessions", 7), MISSING),
        (call("together", 3, 3), MISSING),
        (call("common_members", 0, 3), MISSING),
        (call("conversion", 3), MISSING),
        (call("conversion", 1), [-33]),
        (call("funnel", 0, 9, [6]), OUTSIDE),
        (call("funnel", 0, 9, []), OUTSIDE),
        (call("trending", 0, 0, 1), OUTSIDE),
        (call("trending", 100000001, 1, 1), OUTSIDE),
        (call("unseen", 7), MISSING),
        (call("opinions", 7), MISSING),
    ]

    def test_each_refusal(self):
        kept = run(*small_store(), *look())
        for bad, code in self.REFUSED:
            with self.subTest(bad):
                found = run(*small_store(), bad, *look())
                self.assertEqual(found.pop(12), code)
                self.assertEqual(found, kept)

    def test_too_many_items(self):
        forty = [create()] + [add_item(1)] * 40 + [call("add_member", 5, 1), call("record", 3, 5, 39, 0, 0)]
        shown = [call("item_info", 39), call("item_info", 40), call("counts", 39, 0, 9), call("categories", 0, 9)]
        found = run(*forty, add_item(2), *shown)
        self.assertEqual(found.pop(43), FULL)
        self.assertEqual(found, run(*forty, *shown))

    def test_too_many_members(self):
        forty = [create(), add_item(1)] + [call("add_member", member, member) for member in range(40)]
        shown = [call("member_info", 39), call("member_info", 40), call("delete_member", 3), call("add_member", 41, 0)]
        found = run(*forty, call("add_member", 40, 40), *shown)
        self.assertEqual(found.pop(42), FULL)
        self.assertEqual(found, run(*forty, *shown))


if __name__ == "__main__":
    unittest.main()
