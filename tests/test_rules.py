"""The functions covers, clears and source; follows has a file of its own."""

import unittest

from provenames.names import ancestors
from provenames.records import make_set
from provenames.rules import clears, covers, source
from tests import derive

A, AB, ABC, B, C = ("a",), ("a", "b"), ("a", "b", "c"), ("b",), ("c",)
ELEVEN = tuple("abcdefghijk")


def gap(owner, following, *kinds):
    return make_set(owner, "gap", 300, [(following, kinds + ("gap",))])


class CoversTest(unittest.TestCase):
    def assert_covers(self, zone, gap_set, *names):
        for name in names:
            with self.subTest(zone=zone, gap_set=gap_set, name=name):
                self.assertIs(covers(zone, gap_set, name), True)

    def assert_not(self, zone, gap_set, *names):
        for name in names:
            with self.subTest(zone=zone, gap_set=gap_set, name=name):
                self.assertIs(covers(zone, gap_set, name), False)
                self.assertIs(clears(zone, gap_set, name), False)

    def test_names_before_at_and_behind_the_owner(self):
        gap_set = gap(("d",), ("k",))
        self.assert_covers((), gap_set, ("d", "a"), ("d", "*"), ("d-",), ("da",), ("e",), ("e", "x", "y"))
        self.assert_not((), gap_set, ("d",), ("c",), ("c", "z"), ("a",), ("*",), ("czz",))

    def test_names_before_at_and_behind_next(self):
        gap_set = gap(("d",), ("k",))
        self.assert_covers((), gap_set, ("j",), ("j", "z"), ("jzz",))
        self.assert_not((), gap_set, ("k",), ("k", "a"), ("k-",), ("l",), ("z",))
        below = gap(("d",), ("k", "m"))
        self.assert_covers((), below, ("k",), ("k", "*"), ("k", "l"), ("k", "l", "z"))
        self.assert_not((), below, ("k", "m"), ("k", "m", "a"), ("k", "n"), ("l",))

    def test_next_is_the_zone(self):
        self.assert_covers((), gap(("d",), ()), ("e",), ("z", "z"), ("d", "a"))
        self.assert_not((), gap(("d",), ()), ("d",), ("c",), ())
        self.assert_covers((), gap((), ()), ("*",), ("a",), ("z", "z"))
        self.assert_not((), gap((), ()), ())
        self.assert_covers(("m",), gap(("m", "d"), ("m",)), ("m", "e"), ("m", "d", "a"))
        # Only names below the zone are covered.
        self.assert_not(("m",), gap(("m", "d"), ("m",)), ("m",), ("m-",), ("n",), ("a",), ())
        # Next is the zone above, which is not this zone.
        self.assert_not(("m",), gap(("m", "d"), ()), ("m", "e"))
        self.assert_not((), gap(("m", "d"), ("m",)), ("m", "e"))

    def test_names_that_do_not_lie_below_the_zone(self):
        self.assert_covers(("m",), gap(("a",), ("z",)), ("m", "a"), ("m", "*"))
        self.assert_not(("m",), gap(("a",), ("z",)), ("m",), ("n",), ("b",), ("ma",), ("n", "m"))
        self.assert_not(("m",), gap(("a",), ("m",)), ("b",), ("m",))
        self.assert_not((), gap(("a",), ()), ())

    def test_labels_that_are_prefixes_of_others(self):
        gap_set = gap(("a",), ("aa",))
        self.assert_covers((), gap_set, ("a", "a"), ("a", "zz"), ("a-",), ("a-", "a"), ("a0",))
        self.assert_not((), gap_set, ("a",), ("aa",), ("aa", "a"), ("ab",))
        cut = gap(("a",), ("b",), "server")
        self.assert_covers((), cut, ("a-",), ("aa",), ("aa", "a"))
        self.assert_not((), cut, ("a", "-"), ("a", "a"), ("a",))

    def test_below_a_cut(self):
        cut = gap(A, C, "server")
        self.assert_not((), cut, AB, ABC, ("a", "*"))
        self.assert_covers((), cut, B, ("b", "x"), ("a-",))
        self.assert_covers((), gap(A, C, "link"), AB, ABC, B)
        self.assert_not((), gap(A, C, "server", "link"), AB)
        # The owner is the zone: its servers are no cut.
        self.assert_covers(A, gap(A, ("a", "x"), "server"), AB, ABC, ("a", "*"))
        self.assert_covers((), gap((), C, "server"), A, AB)
        self.assert_covers(A, gap(A, A, "server"), AB, ("a", "z"))
        self.assert_not(A, gap(AB, A, "server"), ABC)
        self.assert_covers(A, gap(AB, A, "server"), ("a", "c"))

    def test_clears(self):
        for gap_set, name, expected in (
            (gap((), AB), A, False), (gap((), ABC), A, False), (gap((), ABC), AB, False),
            (gap((), AB), ("a", "a"), True), (gap((), AB), ("*",), True), (gap((), ("aa",)), A, True),
            (gap((), ("a-",)), A, True), (gap((), ()), A, True), (gap(A, ()), AB, True),
            (gap((), B), A, True), (gap((), ("b", "a")), B, False),
        ):
            with self.subTest(gap_set=gap_set, name=name):
                self.assertIs(covers((), gap_set, name), True)
                self.assertIs(clears((), gap_set, name), expected)
        # Next is the name itself, which is not covered then.
        self.assertIs(clears((), gap((), A), A), False)

    def test_source(self):
        for gap_set, name, expected in (
            (gap((), ("x",)), ("c",), ("*",)),
            (gap(("a", "b"), ("d",)), ("c",), ("*",)),
            # The owner shares more, next shares more, both share as much.
            (gap(AB, ("d",)), ("a", "c"), ("a", "*")),
            (gap(ABC, ("d",)), ("a", "b", "d", "e"), ("a", "b", "*")),
            (gap(AB, ("d",)), ("a", "b", "d"), ("a", "b", "*")),
            (gap(A, ("d", "f", "g")), ("d", "f", "a"), ("d", "f", "*")),
            (gap(A, ("d", "f", "g")), ("d", "e"), ("d", "*")),
            (gap(("d", "a"), ("d", "c")), ("d", "b"), ("d", "*")),
            (gap(("d", "a", "x"), ("d", "c")), ("d", "a", "y"), ("d", "a", "*")),
            (gap(("d", "a"), ("d", "c", "x")), ("d", "c", "a"), ("d", "c", "*")),
            (gap(("a",), ("aa",)), ("a-",), ("*",)),
            (gap(("a", "*"), ()), ("a", "b", "c"), ("a", "*")),
            (gap(("org", "w", "*"), ("org",)), ("org", "x"), ("org", "*")),
            (gap(("org",), ("org",)), ("org", "x", "y"), ("org", "*")),
            (gap(ELEVEN, ()), ELEVEN + ("x",), ELEVEN + ("*",)),
            (gap(ELEVEN + ("l",), ()), ELEVEN + ("x",), ELEVEN + ("*",)),
        ):
            with self.subTest(gap_set=gap_set, name=name):
                self.assertEqual(source(gap_set, name), expected)

    def test_an_encloser_without_a_star(self):
        # Only a name beyond the limit of labels has one, and that raises no error.
        self.assertIsNone(source(gap(ELEVEN + ("l",), ()), ELEVEN + ("l", "m")))

    def test_against_the_document(self):
        labels = ("*", "-", "a", "a-", "aa", "b")
        names = [()] + [(label,) for label in labels] + [
            (label, below) for label in labels if label != "*" for below in labels]
        seen = set()
        for zone in ((), A, ("aa",)):
            for owner in names[:20]:
                for following in names[::3] + [zone]:
                    for kinds in ((), ("server",), ("text", "server", "link")):
                        gap_set = gap(owner, following, *kinds)
                        seen |= {self.compare(zone, gap_set, name) for name in names}
        self.assertEqual(seen, {(False, False), (True, False), (True, True)})

    def compare(self, zone, gap_set, name):
        expected = (derive.covers(zone, gap_set, name), derive.clears(zone, gap_set, name))
        self.assertEqual((covers(zone, gap_set, name), clears(zone, gap_set, name)), expected)
        if expected[1]:
            found = source(gap_set, name)
            self.assertEqual(found, derive.source(gap_set, name))
            self.assertIn(found[:-1], list(ancestors(name)))
        return expected


if __name__ == "__main__":
    unittest.main()
