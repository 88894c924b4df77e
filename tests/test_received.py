import unittest

from provenames.records import make_set
from provenames.received import Received

LAST = 4294967295
SIGNATURE = (("org",), 0, 1, 10, 20, 0)


def signed_set(label, ttl, *signatures):
    return (make_set((label,), "text", ttl, ["x"]), signatures)


class ReceivedTest(unittest.TestCase):
    def setUp(self):
        self.received = Received()
        self.a, self.b, self.c = [signed_set(label, 10, SIGNATURE) for label in "abc"]

    def test_nothing_received(self):
        self.assertEqual(len(self.received), 0)
        self.assertEqual(self.received.live(0), [])

    def test_the_end_of_life(self):
        self.assertIsNone(self.received.take(self.a, 100))
        for time, expected in ((100, True), (105, True), (110, True), (111, False), (LAST, False)):
            self.assertEqual(self.received.live(time), [self.a] if expected else [])
        # It does not matter when it was received.
        for time in (0, 1, 99):
            self.assertEqual(self.received.live(time), [self.a])

    def test_without_signatures(self):
        self.received.take(signed_set("a", 10), 100)
        self.assertEqual((len(self.received), self.received.live(100)), (0, []))
        self.received.take(self.a, 100)
        self.received.take((self.a[0], ()), 200)
        self.assertEqual((len(self.received), self.received.live(110)), (1, [self.a]))
        self.assertEqual(self.received.live(111), [])

    def test_signatures_that_are_not_valid_count(self):
        self.received.take(signed_set("a", 10, (("z",), LAST, 0, 5, 4, LAST)), 100)
        self.assertEqual(len(self.received.live(100)), 1)

    def test_again_at_a_later_time(self):
        self.received.take(self.a, 100)
        self.received.take(self.a, 105)
        self.assertEqual(self.received.live(115), [self.a])
        self.assertEqual(self.received.live(116), [])
        self.assertEqual(len(self.received), 1)

    def test_again_at_an_earlier_time(self):
        self.received.take(self.a, 100)
        self.received.take(self.a, 95)
        self.received.take(self.a, 0)
        self.assertEqual(self.received.live(110), [self.a])
        self.assertEqual(self.received.live(111), [])
        self.assertEqual(len(self.received), 1)

    def test_again_at_the_same_time(self):
        self.received.take(self.a, 100)
        self.received.take((self.a[0], (SIGNATURE,)), 100)
        self.assertEqual(self.received.live(110), [self.a])
        self.assertEqual(self.received.live(111), [])
        self.assertEqual(len(self.received), 1)

    def test_lifetimes(self):
        short, long = signed_set("a", 0, SIGNATURE), signed_set("b", LAST, SIGNATURE)
        self.received.take(short, 100)
        self.received.take(long, 100)
        self.assertEqual(self.received.live(100), [short, long])
        self.assertEqual(self.received.live(101), [long])
        self.assertEqual(self.received.live(LAST), [long])
        self.assertEqual(self.received.live(LAST + 100), [long])
        self.assertEqual(self.received.live(LAST + 101), [])
        self.received.take(short, LAST)
        self.assertEqual(self.received.live(LAST), [short, long])

    def test_live_at_times_in_any_order(self):
        self.received.take(self.a, 100)
        self.received.take(self.b, 50)
        self.received.take(self.c, 200)
        for time, expected in ((300, []), (60, [self.a, self.b, self.c]), (211, []), (61, [self.a, self.c]),
                               (110, [self.a, self.c]), (111, [self.c]), (0, [self.a, self.b, self.c])):
            self.assertEqual(self.received.live(time), expected)

    def test_the_order_in_which_they_came_first(self):
        for one in (self.b, self.c, self.a):
            self.received.take(one, 100)
        self.received.take(self.c, 105)
        self.received.take(self.b, 110)
        self.assertEqual(self.received.live(110), [self.b, self.c, self.a])
        # One has ended and is received again.
        self.assertEqual(self.received.live(118), [self.b])
        self.received.take(self.a, 120)
        self.received.take(self.c, 121)
        self.received.take(self.b, 122)
        self.assertEqual(self.received.live(122), [self.b, self.c, self.a])

    def test_sets_that_differ(self):
        others = [
            self.a, signed_set("a", 11, SIGNATURE), signed_set("a", 10, SIGNATURE, SIGNATURE),
            signed_set("a", 10, SIGNATURE[:5] + (1,)), (make_set(("a",), "text", 10, ["y"]), (SIGNATURE,)),
            (make_set(("a",), "gap", 10, [((), ("gap",))]), (SIGNATURE,)),
            (make_set(("a",), "mail", 10, [(1, ("a",))]), (SIGNATURE,))]
        for many, other in enumerate(others):
            self.assertEqual(len(self.received), many)
            self.received.take(other, 100)
        self.assertEqual(self.received.live(100), others)

    def test_len_counts_what_is_not_live(self):
        self.received.take(self.a, 0)
        self.received.take(self.b, 100)
        self.assertEqual(self.received.live(100), [self.b])
        self.assertEqual(len(self.received), 2)
        self.received.take(self.a, 100)
        self.assertEqual(len(self.received), 2)

    def test_a_returned_list_that_is_changed_changes_nothing(self):
        self.received.take(self.a, 100)
        self.received.live(100).clear()
        self.received.live(100).append(self.b)
        self.assertEqual(self.received.live(100), [self.a])

    def test_objects_are_apart(self):
        Received().take(self.a, 100)
        self.assertEqual(len(self.received), 0)


if __name__ == "__main__":
    unittest.main()
