import itertools
import random
import unittest

from provenames.errors import BadName, BadRecord, Unknown, ZoneConflict
from provenames.records import KINDS, make_set
from provenames.zone import Zone
from tests import model

LAST = 4294967295
ORG = ("org",)
TREE = ("org", "tree")
TWELVE = ("a", "b", "c", "d", "e", "f", "g", "h", "i", "j", "k", "l")
NO_NAMES = [
    TWELVE + ("m",), ("x" * 21,), ("",), ("a", ""), ("A",), ("a_",), ("a.b",), ("a%",), ("*", "a"),
    ("*", "*"), ("a*",),
]
ZONE_KINDS = ("address", "text", "mail", "alias", "server", "link")
VALUES = {
    "address": [7], "text": ["x"], "mail": [(1, ())], "alias": [("z",)], "server": [("z",)],
    "start": [(1, 2)], "key": [5], "link": [5], "gap": [((), ("gap",))],
}
OTHER_VALUES = {
    "address": [8, 9], "text": ["y", ""], "mail": [(2, ("b",))], "alias": [("y",)],
    "server": [("y",), ("x",)], "link": [0, LAST],
}


def put(zone, name, kind):
    zone.put(name, kind, 60, VALUES[kind])


def made(apex, *pairs):
    """A zone with these owners and kinds."""
    zone = Zone(apex, 0)
    for name, kind in pairs:
        put(zone, name, kind)
    return zone


def state(zone):
    """Everything that can be seen of a zone."""
    record_sets = list(zone)
    names = [record_set[0] for record_set in record_sets] + [ORG, TREE, ()]
    seen = [(name, kind, zone.at(name, kind), (name, kind) in zone)
            for name in names for kind in KINDS]
    return (zone.apex, zone.quiet, record_sets, zone.cuts(), zone.owners(), seen)


class ZoneTest(unittest.TestCase):
    def assert_refused(self, error, zone, call, *arguments):
        """The call raises just this error, and the zone is as before."""
        before = state(zone)
        with self.subTest(call=call.__name__, arguments=arguments):
            with self.assertRaises(error) as caught:
                call(*arguments)
            self.assertIs(type(caught.exception), error)
            self.assertEqual(state(zone), before)

    def assert_put_refused(self, zone, name, kind):
        self.assert_refused(ZoneConflict, zone, zone.put, name, kind, 60, VALUES[kind])

    def assert_put_good(self, zone, name, kind):
        with self.subTest(name=name, kind=kind):
            put(zone, name, kind)
            self.assertIn((name, kind), zone)

    def assert_has(self, zone, *pairs):
        self.assertEqual([record_set[:2] for record_set in zone], list(pairs))


class CreatingTest(ZoneTest):
    def test_apexes(self):
        for apex in ((), ("a",), TREE, ("-",), ("x" * 20, "0-9"), TWELVE):
            with self.subTest(apex=apex):
                zone = Zone(apex, 5)
                self.assertEqual((zone.apex, zone.quiet), (apex, 5))
                self.assertEqual(zone.owners(), [apex])
                put(zone, apex, "text")
                self.assert_has(zone, (apex, "text"))

    def test_apexes_that_are_no_names_or_wildcards(self):
        for apex in NO_NAMES + [("*",), ("org", "*"), TWELVE[:11] + ("*",), TWELVE + ("*",)]:
            for quiet in (5, -1, LAST + 1):
                with self.subTest(apex=apex, quiet=quiet):
                    self.assertRaises(BadName, Zone, apex, quiet)

    def test_quiet_times(self):
        for quiet in (0, 1, LAST - 1, LAST):
            with self.subTest(quiet=quiet):
                self.assertEqual(Zone(ORG, quiet).quiet, quiet)
        for quiet in (-1, LAST + 1, -LAST, 2 ** 70):
            with self.subTest(quiet=quiet):
                self.assertRaises(BadRecord, Zone, ORG, quiet)

    def test_a_new_zone_contains_nothing(self):
        zone = Zone(ORG, 5)
        self.assertEqual(list(zone), [])
        self.assertEqual(zone.cuts(), [])
        self.assertEqual(zone.owners(), [ORG])
        for kind in KINDS:
            self.assertIsNone(zone.at(ORG, kind))
            self.assertIs((ORG, kind) in zone, False)

    def test_fields_are_set_on_the_object(self):
        self.assertLessEqual({"apex", "quiet"}, set(vars(Zone(ORG, 5))))


class PuttingTest(ZoneTest):
    def test_each_kind(self):
        for kind in ZONE_KINDS:
            with self.subTest(kind=kind):
                zone = Zone(ORG, 5)
                if kind == "link":
                    put(zone, TREE, "server")
                self.assertIsNone(zone.put(TREE, kind, 60, VALUES[kind]))
                expected = make_set(TREE, kind, 60, VALUES[kind])
                self.assertEqual(zone.at(TREE, kind), expected)
                self.assertIs((TREE, kind) in zone, True)
                self.assertIs((ORG, kind) in zone, False)
                self.assertIsNone(zone.at(ORG, kind))
                self.assertIn(expected, list(zone))

    def test_values_are_sorted_and_without_duplicates(self):
        zone = Zone(ORG, 5)
        zone.put(TREE, "address", LAST, [9, 4, 9])
        self.assertEqual(zone.at(TREE, "address"), (TREE, "address", LAST, (4, 9)))

    def test_kinds_that_no_zone_contains(self):
        zone = made(ORG, (ORG, "text"))
        for kind in ("start", "key", "gap"):
            for name in (ORG, TREE, (), ("com",)):
                self.assert_refused(BadRecord, zone, zone.put, name, kind, 60, VALUES[kind])

    def test_errors_of_make_set(self):
        zone = made(ORG, (ORG, "text"))
        for name in NO_NAMES:
            for kind in ("address", "start", "unknown"):
                self.assert_refused(BadName, zone, zone.put, name, kind, -1, [])
                self.assert_refused(BadName, zone, zone.put, name, kind, 60, VALUES.get(kind, []))
        for kind in ("unknown", "", "Address", "*"):
            self.assert_refused(BadRecord, zone, zone.put, TREE, kind, 60, [1])
        for ttl in (-1, LAST + 1):
            self.assert_refused(BadRecord, zone, zone.put, TREE, "address", ttl, [1])
        for kind, values in (
            ("address", [-1]), ("address", [LAST + 1]), ("address", [1, -1]), ("address", []),
            ("address", list(range(101))), ("text", ["x" * 61]), ("text", ["%"]),
            ("mail", [(65536, ())]), ("mail", [(1, ("A",))]), ("alias", [("*", "a")]),
            ("alias", [("a",), ("b",)]), ("alias", []), ("server", [("",)]), ("link", [-1]),
        ):
            self.assert_refused(BadRecord, zone, zone.put, TREE, kind, 60, values)
        zone.put(TREE, "address", 0, list(range(100)))
        zone.put(ORG + ("z",), "alias", LAST, [("a",), ("a",)])

    def test_several_errors_at_once(self):
        zone = made(ORG, (TREE, "alias"))
        outside = ("com",)
        self.assert_refused(BadName, zone, zone.put, ("com", ""), "gap", -1, [])
        self.assert_refused(BadName, zone, zone.put, ("*", "com"), "address", 60, [1])
        self.assert_refused(BadRecord, zone, zone.put, outside, "address", -1, [1])
        self.assert_refused(BadRecord, zone, zone.put, outside, "address", 60, [])
        self.assert_refused(BadRecord, zone, zone.put, outside, "unknown", 60, [1])
        self.assert_refused(BadRecord, zone, zone.put, outside, "start", 60, [(1, 2)])
        self.assert_refused(BadRecord, zone, zone.put, TREE, "text", 60, ["x" * 61])
        self.assert_refused(BadRecord, zone, zone.put, TREE, "gap", 60, [((), ("gap",))])
        self.assert_refused(BadRecord, zone, zone.put, TREE, "link", LAST + 1, [1])
        self.assert_refused(ZoneConflict, zone, zone.put, outside, "address", 60, [1])
        self.assert_refused(ZoneConflict, zone, zone.put, TREE, "text", 60, ["x"])

    def test_a_set_in_place_of_another(self):
        zone = made(ORG, (ORG, "server"), (TREE, "server"), (TREE, "link"), (TREE, "address"),
                    (TREE + ("a",), "address"), (ORG + ("x",), "alias"), (ORG + ("y",), "mail"),
                    (ORG + ("y",), "text"))
        pairs = [record_set[:2] for record_set in zone]
        for name, kind in pairs:
            with self.subTest(name=name, kind=kind):
                zone.put(name, kind, 61, OTHER_VALUES[kind])
                self.assertEqual(zone.at(name, kind), make_set(name, kind, 61, OTHER_VALUES[kind]))
                self.assertEqual([record_set[:2] for record_set in zone], pairs)
                self.assertEqual([zone.at(*pair) for pair in pairs], list(zone))
        self.assertEqual([record_set[2] for record_set in zone], [61] * len(pairs))

    def test_the_list_of_values_is_not_kept_or_changed(self):
        zone = Zone(ORG, 5)
        values = [9, 4, 9]
        zone.put(TREE, "address", 60, values)
        self.assertEqual(values, [9, 4, 9])
        values.append(1)
        values[0] = 0
        self.assertEqual(zone.at(TREE, "address")[3], (4, 9))
        self.assertEqual(list(zone)[0][3], (4, 9))


class RulesTest(ZoneTest):
    def test_owners_lie_in_the_apex(self):
        zone = Zone(TREE, 5)
        for name in ((), ORG, ("org", "tre"), ("org", "treee"), ("org", "tree-"), ("org", "*"),
                     ("tree",), ("tree", "org"), ("a", "org", "tree")):
            for kind in ZONE_KINDS:
                self.assert_put_refused(zone, name, kind)
        for name in (TREE, TREE + ("a",), TREE + ("*",), TREE + ("a", "b", "*")):
            self.assert_put_good(zone, name, "text")
        root = Zone((), 5)
        for name in ((), ("a",), ("*",), TWELVE):
            self.assert_put_good(root, name, "text")

    def test_an_owner_of_an_alias_owns_nothing_else(self):
        for kind in ZONE_KINDS:
            if kind != "alias":
                zone = made(ORG, (TREE, "alias"))
                self.assert_put_refused(zone, TREE, kind)
                self.assert_put_good(zone, TREE, "alias")
                # What lies above or below or beside an alias is free.
                if kind != "link":
                    for name in (ORG, TREE + ("a",), ("org", "tre"), ("org", "treee")):
                        self.assert_put_good(zone, name, kind)
            if kind not in ("alias", "link"):
                zone = made(ORG, (TREE, kind))
                self.assert_put_refused(zone, TREE, "alias")
        zone = made(ORG, (TREE, "server"), (TREE, "link"))
        self.assert_put_refused(zone, TREE, "alias")
        zone = made(ORG, (TREE, "address"), (TREE, "text"))
        self.assert_put_refused(zone, TREE, "alias")
        zone.drop(TREE, "address")
        self.assert_put_refused(zone, TREE, "alias")
        zone.drop(TREE, "text")
        self.assert_put_good(zone, TREE, "alias")

    def test_the_apex_owns_no_alias(self):
        for apex in ((), ORG, TREE, TWELVE):
            zone = Zone(apex, 5)
            self.assert_put_refused(zone, apex, "alias")
            put(zone, apex, "text")
            self.assert_put_refused(zone, apex, "alias")

    def test_no_wildcard_owns_a_server(self):
        for apex in ((), ORG):
            zone = Zone(apex, 5)
            for wildcard in (apex + ("*",), apex + ("a", "*")):
                self.assert_put_refused(zone, wildcard, "server")
                for kind in ("address", "text", "mail"):
                    self.assert_put_good(zone, wildcard, kind)
                self.assert_put_refused(zone, wildcard, "server")
            self.assert_put_good(zone, apex + ("b", "*"), "alias")
            self.assert_put_refused(zone, apex + ("b", "*"), "server")
            self.assert_put_refused(zone, apex + ("b", "*"), "link")

    def test_kinds_of_a_cut(self):
        zone = made(ORG, (TREE, "server"))
        for kind in ("text", "mail", "alias"):
            self.assert_put_refused(zone, TREE, kind)
        for kind in ("address", "link", "server"):
            self.assert_put_good(zone, TREE, kind)
        for kind in ("text", "mail", "alias"):
            self.assert_put_refused(zone, TREE, kind)
            before = made(ORG, (TREE, kind))
            self.assert_put_refused(before, TREE, "server")
            before.drop(TREE, kind)
            self.assert_put_good(before, TREE, "server")
        self.assert_put_good(made(ORG, (TREE, "address")), TREE, "server")
        self.assert_put_refused(made(ORG, (TREE, "address"), (TREE, "mail")), TREE, "server")

    def test_the_apex_with_a_server_is_no_cut(self):
        for apex in ((), ORG):
            zone = made(apex, (apex, "server"))
            for kind in ("address", "text", "mail"):
                self.assert_put_good(zone, apex, kind)
                self.assert_put_good(zone, apex + ("a",), kind)
            self.assert_put_refused(zone, apex, "link")
            self.assert_put_refused(zone, apex, "alias")
            self.assert_put_good(zone, apex + ("b",), "server")
            self.assertEqual(zone.cuts(), [apex + ("b",)])
            other = made(apex, (apex, "text"), (apex + ("a",), "mail"))
            self.assert_put_good(other, apex, "server")

    def test_kinds_below_a_cut(self):
        for below in (TREE + ("a",), TREE + ("*",), TREE + ("a", "b", "c"), TREE + ("a", "*")):
            zone = made(ORG, (TREE, "server"))
            for kind in ZONE_KINDS:
                if kind != "address":
                    self.assert_put_refused(zone, below, kind)
            self.assert_put_good(zone, below, "address")
            for kind in ZONE_KINDS:
                if kind != "address":
                    self.assert_put_refused(zone, below, kind)
        for name in (("org", "tre"), ("org", "tree-"), ("org", "treee"), ("org", "tree-", "a"), ORG):
            self.assert_put_good(zone, name, "text")
            self.assert_put_good(zone, name, "server" if name == ORG else "address")

    def test_a_cut_above_what_is_there(self):
        for below in (TREE + ("a",), TREE + ("*",), TREE + ("a", "b", "c"), TREE + ("z" * 20,)):
            for kind in ("text", "mail", "alias"):
                zone = made(ORG, (below, kind))
                self.assert_put_refused(zone, TREE, "server")
                zone.drop(below, kind)
                self.assert_put_good(zone, TREE, "server")
            zone = made(ORG, (below, "address"))
            self.assert_put_good(zone, TREE, "server")
        # The wrong one may be anywhere among those below, and behind addresses of its own.
        names = [TREE + label for label in (("a",), ("b",), ("b", "c"), ("z",))]
        for wrong in names:
            zone = made(ORG, *[(name, "address") for name in names], (wrong, "mail"))
            self.assert_put_refused(zone, TREE, "server")
        # What is not below does not matter.
        zone = made(ORG, (ORG, "text"), (("org", "tre"), "mail"), (("org", "tree-"), "text"),
                    (("org", "treee", "a"), "alias"), (("org", "t", "tree"), "text"))
        self.assert_put_good(zone, TREE, "server")

    def test_a_cut_above_or_below_a_cut(self):
        zone = made(ORG, (TREE, "server"))
        self.assert_put_refused(zone, TREE + ("a",), "server")
        self.assert_put_refused(zone, TREE + ("a", "b", "c"), "server")
        zone = made(ORG, (TREE + ("a", "b"), "server"))
        self.assert_put_refused(zone, TREE + ("a",), "server")
        self.assert_put_refused(zone, TREE, "server")
        self.assert_put_good(zone, TREE + ("b",), "server")
        zone.drop(TREE + ("a", "b"), "server")
        self.assert_put_good(zone, TREE + ("a",), "server")

    def test_an_owner_of_a_link_is_a_cut(self):
        zone = made(ORG, (ORG, "server"), (ORG + ("a",), "address"))
        for name in (ORG, TREE, ORG + ("a",), ORG + ("*",)):
            self.assert_put_refused(zone, name, "link")
        put(zone, TREE, "server")
        for name in (ORG, TREE + ("a",), ORG + ("a",), ("org", "tre")):
            self.assert_put_refused(zone, name, "link")
        self.assert_put_good(zone, TREE, "link")

    def test_against_the_rules_one_by_one(self):
        names = [(), ("a",), ("a", "b"), ("a", "b", "c"), ("a-",), ("aa",), ("*",), ("a", "*"), ("b",)]
        for seed in range(60):
            chance = random.Random(seed)
            apex = chance.choice([(), (), ("a",)])
            zone, table = Zone(apex, 5), {}
            for step in range(40):
                pair = (chance.choice(names), chance.choice(ZONE_KINDS))
                if chance.random() < 0.7:
                    self.check_put(zone, apex, table, pair, step)
                else:
                    self.check_drop(zone, apex, table, pair)
                with self.subTest(seed=seed, step=step):
                    self.assertEqual(list(zone), model.in_order(table))
                    self.assertEqual(zone.cuts(), model.cuts_of(apex, table))
                    self.assertEqual(zone.owners(), model.proper_owners(apex, table))

    def check_put(self, zone, apex, table, pair, ttl):
        if model.follows_rules(apex, list(table) + [pair]):
            zone.put(*pair, ttl, VALUES[pair[1]])
            table[pair] = make_set(*pair, ttl, VALUES[pair[1]])
        else:
            self.assert_put_refused(zone, *pair)

    def check_drop(self, zone, apex, table, pair):
        if pair not in table:
            self.assert_refused(Unknown, zone, zone.drop, *pair)
        elif not model.follows_rules(apex, [other for other in table if other != pair]):
            self.assert_refused(ZoneConflict, zone, zone.drop, *pair)
        else:
            zone.drop(*pair)
            del table[pair]


class DroppingTest(ZoneTest):
    def test_what_is_there(self):
        pairs = [(ORG, "text"), (TREE, "server"), (TREE, "address"), (TREE, "link"),
                 (TREE + ("a",), "address"), (("org", "x"), "alias"), (("org", "y"), "mail")]
        for name, kind in pairs:
            if (name, kind) != (TREE, "server"):
                zone = made(ORG, *pairs)
                with self.subTest(name=name, kind=kind):
                    self.assertIsNone(zone.drop(name, kind))
                    self.assertIs((name, kind) in zone, False)
                    self.assertIsNone(zone.at(name, kind))
                    left = {pair: make_set(*pair, 60, VALUES[pair[1]]) for pair in pairs}
                    del left[name, kind]
                    self.assertEqual(list(zone), model.in_order(left))
                    self.assert_refused(Unknown, zone, zone.drop, name, kind)
                    put(zone, name, kind)
                    self.assertEqual(list(zone), list(made(ORG, *pairs)))

    def test_what_is_not_there(self):
        zone = made(ORG, (TREE, "text"))
        for name, kind in ((TREE, "address"), (ORG, "text"), (TREE + ("a",), "text"), ((), "text"),
                           (("com",), "text"), (TREE, "start"), (ORG, "key"), (ORG, "gap"),
                           (("org", "tre"), "text"), (("org", "*"), "text"), (TREE, "link")):
            self.assert_refused(Unknown, zone, zone.drop, name, kind)
        empty = Zone(ORG, 5)
        self.assert_refused(Unknown, empty, empty.drop, ORG, "text")

    def test_the_server_set_of_a_cut_that_owns_a_link(self):
        zone = made(ORG, (TREE, "server"), (TREE, "link"), (TREE, "address"))
        self.assert_refused(ZoneConflict, zone, zone.drop, TREE, "server")
        zone.drop(TREE, "link")
        zone.drop(TREE, "server")
        self.assert_has(zone, (TREE, "address"))
        self.assertEqual(zone.cuts(), [])

    def test_the_server_set_of_a_cut_without_a_link(self):
        zone = made(ORG, (TREE, "server"), (TREE, "address"), (TREE + ("a",), "address"),
                    (TREE + ("b", "*"), "address"))
        self.assertEqual(zone.owners(), [ORG, TREE])
        zone.drop(TREE, "server")
        self.assertEqual(zone.owners(), [ORG, TREE, TREE + ("a",), TREE + ("b", "*")])
        self.assertEqual(zone.cuts(), [])
        for name in (TREE, TREE + ("a",)):
            self.assert_put_good(zone, name, "text")
        self.assert_put_refused(zone, TREE, "link")

    def test_the_server_set_of_the_apex(self):
        zone = made(ORG, (ORG, "server"), (TREE, "server"), (TREE, "link"))
        zone.drop(ORG, "server")
        self.assert_has(zone, (TREE, "server"), (TREE, "link"))

    def test_only_that_one_is_dropped(self):
        zone = made(ORG, (TREE, "address"), (TREE, "text"), (ORG, "address"), (TREE + ("a",), "address"))
        zone.drop(TREE, "address")
        self.assert_has(zone, (ORG, "address"), (TREE, "text"), (TREE + ("a",), "address"))


class ListingTest(ZoneTest):
    def test_record_sets_in_order(self):
        pairs = [((), "address"), ((), "text"), ((), "mail"), ((), "server"),
                 (("a",), "address"), (("a",), "server"), (("a",), "link"), (("a", "*"), "address"),
                 (("a", "b"), "address"), (("a-",), "alias"), (("aa",), "text"), (("aa",), "mail"),
                 (("ab", "*"), "address"), (("ab", "-"), "address"), (("ab", "0"), "text"),
                 (("ab", "0", "z"), "text"), (("ab", "00"), "text"), (("ab", "a"), "text"), (("b",), "text")]
        for seed in range(10):
            mixed = list(pairs)
            random.Random(seed).shuffle(mixed)
            # A cut stands before its link, whatever order the rest has.
            mixed = sorted(mixed, key=lambda pair: pair[1] == "link")
            zone = made((), *mixed)
            self.assert_has(zone, *pairs)
            self.assertEqual(list(zone), [make_set(*pair, 60, VALUES[pair[1]]) for pair in pairs])
            self.assertEqual(list(zone), list(zone))

    def test_names_that_share_prefixes_of_labels(self):
        names = [("a",), ("a", "b"), ("a", "b", "c"), ("a-",), ("a-", "b"), ("aa",), ("aa", "b"), ("ab",)]
        for order in itertools.islice(itertools.permutations(names), 0, 40320, 997):
            zone = made((), *[(name, "address") for name in order])
            self.assertEqual([record_set[0] for record_set in zone], names)
            self.assertEqual(zone.owners(), [()] + names)
        put(zone, ("a",), "server")
        self.assertEqual(zone.owners(), [(), ("a",), ("a-",), ("a-", "b"), ("aa",), ("aa", "b"), ("ab",)])
        self.assertEqual(zone.cuts(), [("a",)])
        put(zone, ("aa",), "server")
        self.assertEqual(zone.owners(), [(), ("a",), ("a-",), ("a-", "b"), ("aa",), ("ab",)])
        self.assertEqual(zone.cuts(), [("a",), ("aa",)])

    def test_cuts_in_ascending_order_and_without_the_apex(self):
        names = [("b",), ("a", "c"), ("a-",), ("a", "b", "d"), ("aa",)]
        zone = made((), *[(name, "server") for name in names])
        put(zone, (), "server")
        self.assertEqual(zone.cuts(), [("a", "b", "d"), ("a", "c"), ("a-",), ("aa",), ("b",)])
        self.assertEqual(zone.owners(), [(), ("a", "b", "d"), ("a", "c"), ("a-",), ("aa",), ("b",)])

    def test_the_apex_among_the_owners(self):
        zone = made(TREE, (TREE + ("a",), "text"))
        self.assertEqual(zone.owners(), [TREE, TREE + ("a",)])
        put(zone, TREE, "text")
        put(zone, TREE, "mail")
        put(zone, TREE + ("a",), "mail")
        self.assertEqual(zone.owners(), [TREE, TREE + ("a",)])

    def test_names_below_cuts_are_no_owners(self):
        zone = made(ORG, (TREE, "server"), (TREE + ("a",), "address"), (TREE + ("*",), "address"),
                    (TREE + ("a", "b"), "address"), (("org", "treee"), "text"))
        self.assertEqual(zone.owners(), [ORG, TREE, ("org", "treee")])
        self.assertEqual(len(list(zone)), 5)
        self.assertIn((TREE + ("a",), "address"), zone)

    def test_membership_needs_owner_and_kind(self):
        zone = made(ORG, (TREE, "text"), (ORG, "mail"))
        for name in (ORG, TREE, (), TREE + ("a",), ("org", "*")):
            for kind in KINDS:
                right = (name, kind) in ((TREE, "text"), (ORG, "mail"))
                with self.subTest(name=name, kind=kind):
                    self.assertIs((name, kind) in zone, right)
                    self.assertIs((name, kind) not in zone, not right)
                    self.assertEqual(zone.at(name, kind) is not None, right)

    def test_returned_lists_are_copies(self):
        zone = made(ORG, (TREE, "server"), (("org", "x"), "text"))
        before = state(zone)
        for given in (zone.cuts(), zone.owners(), list(zone)):
            given.append(("org", "y"))
            given.reverse()
            del given[0]
        self.assertEqual(state(zone), before)
        kept = zone.owners(), zone.cuts()
        zone.put(("org", "z"), "server", 60, [()])
        self.assertEqual(kept, ([ORG, TREE, ("org", "x")], [TREE]))

    def test_changes_during_an_iteration(self):
        zone = made(ORG, (ORG, "text"), (TREE, "text"), (("org", "x"), "text"))
        for name, kind, _, _ in zone:
            zone.drop(name, kind)
        self.assertEqual(list(zone), [])

    def test_zones_are_apart(self):
        first, second = Zone(ORG, 1), Zone(ORG, 2)
        put(first, TREE, "text")
        self.assertEqual(list(second), [])
        self.assertEqual((first.quiet, second.quiet), (1, 2))


if __name__ == "__main__":
    unittest.main()
