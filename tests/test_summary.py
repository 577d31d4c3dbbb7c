import unittest

from helper import OVER, WEIGHTS, add_item, call, create, last, run


def fnv_1a(octets):
    value = 0xcbf29ce484222325
    for octet in octets:
        value = ((value ^ octet) * 0x100000001b3) & 0xffffffffffffffff
    return value


def expected(*numbers):
    value = fnv_1a(b"".join(number.to_bytes(4, "little") for number in numbers))
    return [value // 2 ** 32, value % 2 ** 32]


class Digest(unittest.TestCase):
    def test_the_hash_of_these_tests_is_the_published_one(self):
        self.assertEqual(fnv_1a(b""), 0xcbf29ce484222325)
        self.assertEqual(fnv_1a(b"a"), 0xaf63dc4c8601ec8c)
        self.assertEqual(fnv_1a(b"foobar"), 0x85944171f73967e8)

    def test_an_empty_store(self):
        self.assertEqual(last(create(3, 30), call("digest")), expected(3, 30, 1, 3, 0, 2, 10, 0, 0, 0, 0))
        self.assertEqual(last(create(0, 0, [0] * 6), call("digest")), expected(*[0] * 11))

    def test_every_byte_of_a_number(self):
        self.assertEqual(last(create(10000, 9999, [1000, 999, 256, 255, 257, 0]), call("digest")),
                         expected(10000, 9999, 1000, 999, 256, 255, 257, 0, 0, 0, 0))
        self.assertEqual(last(create(0, 0, [0] * 6), call("add_item", 1000, 1000000, 100000, [31]), call("digest")),
                         expected(*[0] * 8, 1, 1000, 1000000, 100000, 0, 1, 31, 0, 0))
        self.assertEqual(last(create(0, 0, [0] * 6), add_item(), call("add_member", 1000000, 100000),
                              call("record", 100000000, 1000000, 0, 3, 10), call("digest")),
                         expected(*[0] * 8, 1, 1, 900, 5, 0, 0, 1, 1000000, 100000, 1, 100000000, 1000000, 0, 3, 10))

    def test_items_in_order(self):
        calls = [create(0, 30), call("add_item", 1, 900, 5, [2, 7]), call("add_item", 8, 500, 6),
                 call("add_item", 0, 0, 0, [0, 1, 2, 31])]
        ahead = [0, 30] + WEIGHTS
        self.assertEqual(last(*calls, call("digest")),
                         expected(*ahead, 3, 1, 900, 5, 0, 2, 2, 7, 8, 500, 6, 0, 0, 0, 0, 0, 0, 4, 0, 1, 2, 31, 0, 0))

    def test_withdrawn_items_and_new_prices(self):
        calls = [create(0, 30), call("add_item", 1, 900, 5, [2]), call("add_item", 8, 500, 6, [])]
        ahead = [0, 30] + WEIGHTS
        self.assertEqual(last(*calls, call("set_withdrawn", 1, 1), call("set_price", 0, 7), call("digest")),
                         expected(*ahead, 2, 1, 7, 5, 0, 1, 2, 8, 500, 6, 1, 0, 0, 0))

    def test_members_in_the_order_of_adding(self):
        calls = [create(0, 30), call("add_member", 50, 3), call("add_member", 20, 4), call("add_member", 30, 5)]
        ahead = [0, 30] + WEIGHTS
        self.assertEqual(last(*calls, call("digest")), expected(*ahead, 0, 3, 50, 3, 20, 4, 30, 5, 0))
        self.assertEqual(last(*calls, call("delete_member", 50), call("add_member", 50, 6), call("digest")),
                         expected(*ahead, 0, 3, 20, 4, 30, 5, 50, 6, 0))

    def test_events_in_order(self):
        calls = [create(1, 30), add_item(), add_item(9), call("add_member", 50, 3), call("add_member", 20, 4),
                 call("record", 7, 50, 1, 4, 0), call("record", 7, 20, 0, 3, 9), call("record", 8, 50, 0, 5, 0)]
        ahead = [1, 30] + WEIGHTS + [2, 1, 900, 5, 0, 0, 1, 900, 5, 0, 1, 9, 2, 50, 3, 20, 4]
        self.assertEqual(last(*calls, call("digest")),
                         expected(*ahead, 3, 7, 50, 1, 4, 0, 7, 20, 0, 3, 9, 8, 50, 0, 5, 0))
        self.assertEqual(last(*calls, call("expire", 1447), call("digest")), expected(*ahead, 1, 8, 50, 0, 5, 0))

    def test_stores_that_are_the_same(self):
        one = [create(), add_item(3), call("add_member", 50, 3), call("record", 7, 50, 0, 4, 0)]
        other = [create(5, 5), create(), call("add_member", 9, 9), call("add_member", 50, 3), add_item(3),
                 call("set_price", 0, 1), call("record", 2, 9, 0, 0, 0), call("record", 7, 50, 0, 4, 0),
                 call("set_price", 0, 900), call("delete_member", 9), call("set_withdrawn", 0, 0)]
        self.assertEqual(last(*one, call("digest")), last(*other, call("digest")))

    def test_asking_changes_nothing(self):
        found = run(create(), add_item(3), call("digest"), call("digest"), call("status"), call("digest"))
        self.assertEqual(found[2], found[3])
        self.assertEqual(found[2], found[5])

    def test_every_part_tells(self):
        one = [create(1, 2, [3, 4, 5, 6, 7, 8]), call("add_item", 1, 2, 3, [4]), call("add_member", 5, 6),
               call("record", 7, 5, 0, 3, 8)]
        others = [
            [create(2, 2, [3, 4, 5, 6, 7, 8])] + one[1:], [create(1, 3, [3, 4, 5, 6, 7, 8])] + one[1:],
            [create(1, 2, [4, 3, 5, 6, 7, 8])] + one[1:], [create(1, 2, [3, 4, 5, 6, 7, 9])] + one[1:],
            one[:1] + [call("add_item", 0, 2, 3, [4])] + one[2:], one[:1] + [call("add_item", 1, 3, 3, [4])] + one[2:],
            one[:1] + [call("add_item", 1, 2, 4, [4])] + one[2:], one[:1] + [call("add_item", 1, 2, 3, [])] + one[2:],
            one[:1] + [call("add_item", 1, 2, 3, [4, 5])] + one[2:], one + [call("set_withdrawn", 0, 1)],
            one[:2] + [call("add_member", 5, 7)] + one[3:], one + [call("add_member", 6, 6)], one[:3],
            one[:3] + [call("record", 8, 5, 0, 3, 8)], one[:3] + [call("record", 7, 5, 0, 3, 7)],
            one[:3] + [call("record", 7, 5, 0, 1, 0)], one + [call("delete_member", 5)],
        ]
        values = [last(*calls, call("digest")) for calls in [one] + others]
        self.assertEqual(len({tuple(value) for value in values}), len(values))
        self.assertTrue(all(len(value) == 2 and 0 <= min(value) and max(value) <= OVER for value in values))


class Status(unittest.TestCase):
    START = [create(1), add_item(), add_item(), add_item(), call("add_member", 5, 0), call("add_member", 6, 0)]

    def told(self, *calls):
        return last(*self.START, *calls, call("status"))

    def test_an_empty_store(self):
        self.assertEqual(last(create(), call("status")), [0, 0, 0, 0, 0])

    def test_members_alone(self):
        self.assertEqual(last(create(), call("add_member", 5, 0), call("status")), [0, 0, 1, 0, 0])

    def test_no_events(self):
        self.assertEqual(self.told(), [3, 3, 2, 0, 0])

    def test_events(self):
        self.assertEqual(self.told(call("record", 0, 5, 0, 0, 0)), [3, 3, 2, 1, 0])
        self.assertEqual(self.told(call("record", 4, 5, 0, 0, 0), call("record", 9, 6, 2, 3, 7)), [3, 3, 2, 2, 9])

    def test_withdrawn_items(self):
        gone = [call("set_withdrawn", item, 1) for item in range(3)]
        self.assertEqual(self.told(gone[1]), [3, 2, 2, 0, 0])
        self.assertEqual(self.told(*gone), [3, 0, 2, 0, 0])
        self.assertEqual(self.told(*gone, call("set_withdrawn", 0, 0)), [3, 1, 2, 0, 0])

    def test_the_last_time_after_a_deletion(self):
        rows = [call("record", 4, 5, 0, 0, 0), call("record", 9, 6, 2, 3, 7)]
        self.assertEqual(self.told(*rows, call("delete_member", 6)), [3, 3, 1, 1, 4])
        self.assertEqual(self.told(*rows, call("delete_member", 5)), [3, 3, 1, 1, 9])
        self.assertEqual(self.told(*rows, call("delete_member", 5), call("delete_member", 6)), [3, 3, 0, 0, 0])

    def test_the_last_time_after_an_expire(self):
        rows = [call("record", 4, 5, 0, 0, 0), call("record", 9, 6, 2, 3, 7)]
        self.assertEqual(self.told(*rows, call("expire", 1444)), [3, 3, 2, 1, 9])
        self.assertEqual(self.told(*rows, call("expire", 1449)), [3, 3, 2, 0, 0])

    def test_a_new_store(self):
        self.assertEqual(self.told(call("record", 4, 5, 0, 0, 0), create()), [0, 0, 0, 0, 0])


if __name__ == "__main__":
    unittest.main()
