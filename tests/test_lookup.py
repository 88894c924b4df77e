import unittest

from provenames.lookup import evidence, gap_over, outcome
from provenames.names import ancestors
from provenames.records import KINDS
from provenames.zone import Zone
from tests import model
from tests.zones import NAMES, mixed_zone, signed, unsigned, zone_of

ORG = ("org",)
TREE = ("org", "tree")
BUSH = ("org", "bush")
ASKED = tuple(kind for kind in KINDS if kind != "gap")
TWELVE = ("a", "b", "c", "d", "e", "f", "g", "h", "i", "j", "k", "l")


def rich_zone():
    """Like a zone of an organisation: cuts with and without a link, an alias, wildcards."""
    return zone_of(
        ORG, 300, (ORG, "text", 60, ["x"]), (ORG, "server", 61, [TREE + ("ns",)]),
        (TREE, "server", 63, [TREE + ("ns",), ORG + ("z",)]), (TREE, "link", 64, [5, 6]),
        (TREE, "address", 65, [2]), (TREE + ("ns",), "address", 66, [3]),
        (BUSH, "server", 67, [ORG + ("q",)]), (BUSH, "address", 68, [4]),
        (ORG + ("c",), "alias", 70, [("other",)]), (ORG + ("w", "*"), "mail", 71, [(1, ())]),
        (ORG + ("v", "*"), "alias", 74, [("wild",)]), (ORG + ("z",), "address", 72, [6, 7]),
        (ORG + ("x", "y"), "text", 73, ["y"]))


def pairs(signed_sets):
    return [signed_set[0][:2] for signed_set in signed_sets]


class LookupTest(unittest.TestCase):
    def setUp(self):
        self.edition = signed(rich_zone())
        self.plain = unsigned(rich_zone())

    def assert_outcome(self, name, kinds, expected, edition=None):
        for kind in kinds:
            for asked in (self.edition, self.plain) if edition is None else (edition,):
                with self.subTest(name=name, kind=kind, signed=asked.signed):
                    self.assertEqual(outcome(asked, name, kind), expected)

    def assert_evidence(self, name, kinds, expected, edition=None):
        for kind in kinds:
            asked = self.edition if edition is None else edition
            with self.subTest(name=name, kind=kind):
                found = evidence(asked, name, kind)
                self.assertIs(type(found), list)
                self.assertEqual(pairs(found), expected)
                self.assertEqual(found, [asked.at(*pair) for pair in expected])


class OutcomeTest(LookupTest):
    def test_outside(self):
        for name in ((), ("com",), ("or",), ("orgg",), ("*",), ("com", "org"), ("tree", "org")):
            self.assert_outcome(name, ASKED, ("outside",))

    def test_the_kind_link_at_the_apex(self):
        self.assert_outcome(ORG, ["link"], ("outside",))
        self.assert_outcome(ORG, ["mail", "alias"], ("nodata",))
        root = signed(Zone((), 5))
        self.assert_outcome((), ["link"], ("outside",), root)
        self.assert_outcome(("a",), ["link"], ("noname",), root)

    def test_at_the_apex(self):
        self.assert_outcome(ORG, ["text"], ("data", 60, ("x",)))
        self.assert_outcome(ORG, ["server"], ("data", 61, (TREE + ("ns",),)))
        self.assert_outcome(ORG, ["start"], ("data", 300, ((1, 300),)))
        self.assert_outcome(ORG, ["key"], ("data", 300, (0, 1)), self.edition)
        self.assert_outcome(ORG, ["key"], ("nodata",), self.plain)
        self.assert_outcome(ORG, ["address", "mail", "alias"], ("nodata",))

    def test_referrals(self):
        with_address = ("address", "text", "mail", "alias", "server", "start", "key")
        for cut in (TREE, BUSH):
            self.assert_outcome(cut, with_address, ("referral", cut))
            for below in (("ns",), ("a",), ("*",), ("ns", "a"), ("a", "b", "*")):
                self.assert_outcome(cut + below, ASKED, ("referral", cut))

    def test_the_kind_link_at_a_cut(self):
        self.assert_outcome(TREE, ["link"], ("data", 64, (5, 6)))
        self.assert_outcome(BUSH, ["link"], ("nodata",))

    def test_data_and_nodata(self):
        self.assert_outcome(ORG + ("z",), ["address"], ("data", 72, (6, 7)))
        self.assert_outcome(ORG + ("z",), [kind for kind in ASKED if kind != "address"], ("nodata",))
        self.assert_outcome(ORG + ("x", "y"), ["text"], ("data", 73, ("y",)))
        self.assert_outcome(ORG + ("x", "y"), ["link", "start", "key"], ("nodata",))

    def test_names_that_exist_without_owning_anything(self):
        for name in (ORG + ("x",), ORG + ("w",), ORG + ("v",)):
            self.assert_outcome(name, ASKED, ("nodata",))

    def test_aliases(self):
        name = ORG + ("c",)
        self.assert_outcome(name, ["alias"], ("data", 70, (("other",),)))
        self.assert_outcome(name, [kind for kind in ASKED if kind != "alias"], ("alias", 70, ("other",)))

    def test_no_names(self):
        for name in (ORG + ("a",), ORG + ("*",), ORG + ("zz",), ORG + ("z", "a"), ORG + ("z", "*"),
                     ORG + ("x", "a"), ORG + ("x", "*"), ORG + ("x", "y", "z"), ORG + ("c", "a"),
                     ORG + ("tre",), ORG + ("tree-",), ORG + ("treee", "a")):
            self.assert_outcome(name, ASKED, ("noname",))

    def test_wildcards(self):
        for name in (ORG + ("w", "*"), ORG + ("w", "a"), ORG + ("w", "a", "b"), ORG + ("w", "a", "*")):
            self.assert_outcome(name, ["mail"], ("data", 71, ((1, ()),)))
            self.assert_outcome(name, [kind for kind in ASKED if kind != "mail"], ("nodata",))
        for name in (ORG + ("v", "*"), ORG + ("v", "a"), ORG + ("v", "a", "b", "c"), ORG + ("v", "a", "*")):
            self.assert_outcome(name, ["alias"], ("data", 74, (("wild",),)))
            self.assert_outcome(name, [kind for kind in ASKED if kind != "alias"], ("alias", 74, ("wild",)))

    def test_the_longest_encloser_counts(self):
        edition = signed(zone_of((), 5, (("*",), "text", 1, ["root"]), (("a", "b", "c"), "mail", 2, [(1, ())]),
                                 (("a", "*"), "text", 3, ["a"])))
        self.assert_outcome(("x",), ["text"], ("data", 1, ("root",)), edition)
        self.assert_outcome(("x", "y"), ["text"], ("data", 1, ("root",)), edition)
        self.assert_outcome(("a", "x"), ["text"], ("data", 3, ("a",)), edition)
        self.assert_outcome(("a",), ["text"], ("nodata",), edition)
        self.assert_outcome(("a", "b"), ["text"], ("nodata",), edition)
        # ("a", "b") exists, so no star above it counts below it.
        self.assert_outcome(("a", "b", "x"), ["text"], ("noname",), edition)
        self.assert_outcome(("a", "b", "c", "x"), ["text"], ("noname",), edition)

    def test_a_wildcard_above_a_cut(self):
        edition = signed(zone_of((), 5, (("*",), "text", 1, ["x"]), (("a",), "server", 2, [()]),
                                 (("a", "*"), "address", 3, [1])))
        self.assert_outcome(("a", "b"), ASKED, ("referral", ("a",)), edition)
        self.assert_outcome(("a",), ["link"], ("nodata",), edition)
        self.assert_outcome(("a",), ["address"], ("referral", ("a",)), edition)
        self.assert_outcome(("b",), ["link"], ("nodata",), edition)

    def test_the_apex_with_a_server_is_no_cut(self):
        edition = signed(zone_of(ORG, 5, (ORG, "server", 2, [()]), (ORG + ("a",), "text", 3, ["x"])))
        self.assert_outcome(ORG, ["server"], ("data", 2, ((),)), edition)
        self.assert_outcome(ORG + ("a",), ["text"], ("data", 3, ("x",)), edition)
        self.assert_outcome(ORG + ("b",), ["server", "link"], ("noname",), edition)

    def test_names_of_many_labels(self):
        zone = zone_of((), 5, (TWELVE, "text", 1, ["x"]), (TWELVE[:11] + ("*",), "mail", 2, [(1, ())]))
        edition = signed(zone)
        self.assert_outcome(TWELVE, ["text"], ("data", 1, ("x",)), edition)
        self.assert_outcome(TWELVE[:11] + ("z",), ["mail"], ("data", 2, ((1, ()),)), edition)
        # A question may go somewhat beyond the limit; an owner of twelve labels has no star.
        self.assert_outcome(TWELVE + ("m",), ASKED, ("noname",), edition)
        self.assert_evidence(TWELVE + ("m",), ASKED, [((), "start"), (TWELVE, "gap")], edition)
        self.assert_outcome(TWELVE[:11] + ("z", "m"), ["mail"], ("data", 2, ((1, ()),)), edition)

    def test_asking_changes_nothing(self):
        before = (list(self.edition), self.edition.owners(), self.edition.cuts())
        for name in NAMES:
            outcome(self.edition, ORG + name, "text")
            evidence(self.edition, ORG + name, "text").clear()
            gap_over(self.edition, ORG + name)
        self.assertEqual((list(self.edition), self.edition.owners(), self.edition.cuts()), before)


class GapOverTest(LookupTest):
    def test_the_gap_over_names(self):
        owners = self.edition.owners()
        for place, owner in enumerate(owners):
            names = [owner, owner + ("-",), owner + ("-", "a")]
            if place + 1 < len(owners) and owners[place + 1] == owner + ("*",):
                names = [owner]
            for name in names:
                with self.subTest(name=name):
                    self.assertEqual(gap_over(self.edition, name), self.edition.at(owner, "gap"))

    def test_some_names(self):
        for name, owner in (
            (ORG, ORG), (ORG + ("*",), ORG), (ORG + ("a",), ORG), (ORG + ("bush",), BUSH),
            (BUSH + ("z", "z"), BUSH), (ORG + ("bush-",), BUSH), (ORG + ("c",), ORG + ("c",)),
            (TREE, TREE), (TREE + ("ns",), TREE), (ORG + ("tre",), ORG + ("c",)),
            (ORG + ("treee",), TREE), (ORG + ("x",), ORG + ("w", "*")),
            (ORG + ("x", "y"), ORG + ("x", "y")), (ORG + ("zz",), ORG + ("z",)),
            (ORG + ("z", "z"), ORG + ("z",)),
        ):
            with self.subTest(name=name):
                self.assertEqual(gap_over(self.edition, name)[0][:2], (owner, "gap"))
                self.assertEqual(len(gap_over(self.edition, name)[1]), 1)

    def test_editions_that_are_not_signed(self):
        for name in (ORG, ORG + ("a",), ORG + ("z",), TREE + ("a",)):
            self.assertIsNone(gap_over(self.plain, name))


class EvidenceTest(LookupTest):
    def test_the_example_of_the_document(self):
        edition = signed(zone_of((), 5, (("a", "b"), "address", 1, [1]), (("d",), "text", 1, ["x"])))
        self.assert_outcome(("a",), ASKED, ("nodata",), edition)
        self.assert_evidence(("a",), ASKED, [((), "start"), ((), "gap")], edition)
        self.assert_outcome(("c",), ASKED, ("noname",), edition)
        self.assert_evidence(("c",), ASKED, [((), "start"), (("a", "b"), "gap"), ((), "gap")], edition)

    def test_outside(self):
        for name in ((), ("com",), ("orgg",)):
            self.assert_evidence(name, ASKED, [])
        self.assert_evidence(ORG, ["link"], [])

    def test_referral_with_a_link(self):
        expected = [(TREE, "server"), (TREE, "link"), (TREE + ("ns",), "address"), (ORG + ("z",), "address")]
        # The values of the server set count in their order.
        self.assertEqual(self.edition.at(TREE, "server")[0][3], (TREE + ("ns",), ORG + ("z",)))
        self.assert_evidence(TREE, ["address", "text", "server", "key"], expected)
        self.assert_evidence(TREE + ("a",), ASKED, expected)
        self.assert_evidence(TREE, ["link"], [(TREE, "link")])

    def test_referral_without_a_link(self):
        self.assert_evidence(BUSH, ["address", "text", "server"], [(BUSH, "server"), (BUSH, "gap")])
        self.assert_evidence(BUSH + ("a",), ASKED, [(BUSH, "server"), (BUSH, "gap")])
        self.assert_evidence(BUSH, ["link"], [(ORG, "start"), (BUSH, "gap")])

    def test_addresses_of_servers(self):
        names = [(), ("a",), ("a", "ns"), ("a", "x", "y"), ("b",), ("b", "ns"), ("c",), ("d",), ("e", "f")]
        zone = zone_of((), 5, (("a",), "server", 1, names), (("b",), "server", 2, [("a", "ns")]),
                       ((), "address", 3, [1]), (("a",), "address", 4, [2]), (("a", "ns"), "address", 5, [3]),
                       (("a", "x", "y"), "address", 6, [4]), (("b", "ns"), "address", 7, [5]),
                       (("c",), "text", 8, ["x"]), (("d",), "address", 9, [6]),
                       (("*",), "address", 10, [7]), (("a", "other"), "address", 11, [8]))
        expected = [(("a",), "server"), (("a",), "gap"), ((), "address"), (("a",), "address"),
                    (("a", "ns"), "address"), (("a", "x", "y"), "address"), (("b", "ns"), "address"),
                    (("d",), "address")]
        edition = signed(zone)
        self.assert_evidence(("a", "z"), ASKED, expected, edition)
        self.assert_evidence(("b",), ["text"], [(("b",), "server"), (("b",), "gap"), (("a", "ns"), "address")],
                             edition)
        del expected[1]
        self.assert_evidence(("a", "z"), ASKED, expected, unsigned(zone))

    def test_a_wildcard_as_a_server(self):
        zone = zone_of((), 5, (("a",), "server", 1, [("*",), ("x",)]), (("*",), "address", 2, [1]))
        self.assert_evidence(("a",), ["text"], [(("a",), "server"), (("a",), "gap"), (("*",), "address")],
                             signed(zone))

    def test_data_and_alias(self):
        self.assert_evidence(ORG, ["text"], [(ORG, "text")])
        self.assert_evidence(ORG, ["key"], [(ORG, "key")])
        self.assert_evidence(ORG, ["start"], [(ORG, "start")])
        self.assert_evidence(ORG + ("z",), ["address"], [(ORG + ("z",), "address")])
        self.assert_evidence(ORG + ("c",), ASKED, [(ORG + ("c",), "alias")])

    def test_nodata(self):
        self.assert_evidence(ORG, ["mail", "alias"], [(ORG, "start"), (ORG, "gap")])
        self.assert_evidence(ORG + ("z",), ["text"], [(ORG, "start"), (ORG + ("z",), "gap")])
        self.assert_evidence(ORG + ("x",), ASKED, [(ORG, "start"), (ORG + ("w", "*"), "gap")])

    def test_wildcards(self):
        star, wild = ORG + ("w", "*"), ORG + ("v", "*")
        self.assert_evidence(ORG + ("w", "a"), ["mail"], [(star, "mail"), (star, "gap")])
        self.assert_evidence(ORG + ("w", "a"), ["text"], [(ORG, "start"), (star, "gap")])
        self.assert_evidence(star, ["mail"], [(star, "mail")])
        self.assert_evidence(star, ["text"], [(ORG, "start"), (star, "gap")])
        self.assert_evidence(ORG + ("v", "a"), ASKED, [(wild, "alias"), (wild, "gap")])
        self.assert_evidence(wild, ASKED, [(wild, "alias")])

    def test_a_wildcard_with_another_gap_over_the_name(self):
        zone = zone_of((), 5, (("*",), "mail", 1, [(1, ())]), (("b",), "text", 2, ["x"]))
        edition = signed(zone)
        self.assert_evidence(("c",), ["mail"], [(("*",), "mail"), (("b",), "gap")], edition)
        self.assert_evidence(("c",), ["text"], [((), "start"), (("b",), "gap"), (("*",), "gap")], edition)
        self.assert_evidence(("a",), ["text"], [((), "start"), (("*",), "gap")], edition)
        zone.put(("*",), "text", 3, ["wild"])
        zone.drop(("*",), "mail")
        zone.drop(("*",), "text")
        zone.put(("*",), "alias", 3, [("b",)])
        edition = signed(zone)
        self.assert_evidence(("c", "d"), ["mail"], [(("*",), "alias"), (("b",), "gap")], edition)

    def test_noname(self):
        self.assert_evidence(ORG + ("a",), ASKED, [(ORG, "start"), (ORG, "gap")])
        self.assert_evidence(ORG + ("zz",), ASKED, [(ORG, "start"), (ORG + ("z",), "gap"), (ORG, "gap")])
        self.assert_evidence(ORG + ("z", "a"), ASKED, [(ORG, "start"), (ORG + ("z",), "gap")])
        self.assert_evidence(ORG + ("x", "a"), ASKED, [(ORG, "start"), (ORG + ("w", "*"), "gap")])
        self.assert_evidence(ORG + ("x", "z"), ASKED, [
            (ORG, "start"), (ORG + ("x", "y"), "gap"), (ORG + ("w", "*"), "gap")])

    def test_editions_that_are_not_signed(self):
        for name, kind, expected in (
            (ORG, "text", [(ORG, "text")]), (ORG, "mail", [(ORG, "start")]), (ORG, "key", [(ORG, "start")]),
            (ORG + ("a",), "text", [(ORG, "start")]), (ORG + ("w", "a"), "mail", [(ORG + ("w", "*"), "mail")]),
            (ORG + ("w", "a"), "text", [(ORG, "start")]), (ORG + ("c",), "text", [(ORG + ("c",), "alias")]),
            (BUSH, "text", [(BUSH, "server")]), (BUSH, "link", [(ORG, "start")]), (("com",), "text", []),
            (TREE, "text", [(TREE, "server"), (TREE, "link"), (TREE + ("ns",), "address"),
                            (ORG + ("z",), "address")]),
        ):
            self.assert_evidence(name, [kind], expected, self.plain)

    def test_signatures_stand_in_the_evidence(self):
        for signed_set in evidence(self.edition, ORG + ("zz",), "text"):
            self.assertEqual(len(signed_set[1]), 1)
        server_set = evidence(self.edition, TREE, "text")[0]
        self.assertEqual(server_set[1], ())


class AgainstTheDocumentTest(unittest.TestCase):
    def names(self, apex, table):
        """Names at, above, below and beside what the zone has."""
        names = {(), ("com",), apex + ("*",), apex + ("zz", "zz")}
        for owner, _ in list(table):
            for name in ancestors(owner):
                names.update([name, name[:-1], name + ("a",), name[:-1] + ("a0",), name[:-1] + ("zz", "y")])
                if name[-1:] != ("*",):
                    names.add(name + ("*",))
        return sorted(name for name in names if "*" not in name[:-1])

    def test_all_questions(self):
        seen = set()
        for seed in range(60):
            apex, quiet, zone, table = mixed_zone(seed)
            for edition, keys in ((signed(zone, number=seed), [0, 1]), (unsigned(zone, number=seed), [])):
                made = model.edition_table(apex, quiet, table, seed, keys)
                for name in self.names(apex, table):
                    for kind in ASKED:
                        seen.add(self.check(edition, apex, made, name, kind))
                    if keys and model.lies_in(name, apex):
                        self.assertEqual(gap_over(edition, name)[0], made[model.gap_over(apex, made, name)])
        codes = {(code, line) for code, line in seen}
        self.assertEqual(codes, {
            ("outside", 1), ("referral", 2), ("data", 3), ("alias", 3), ("nodata", 3), ("data", 4),
            ("alias", 4), ("nodata", 4), ("noname", 5)})

    def check(self, edition, apex, made, name, kind):
        expected, line = model.outcome(apex, made, name, kind)
        with self.subTest(apex=apex, name=name, kind=kind):
            self.assertEqual(outcome(edition, name, kind), expected)
            found = evidence(edition, name, kind)
            self.assertEqual([signed_set[0] for signed_set in found],
                             model.evidence(apex, made, name, kind))
            for signed_set in found:
                self.assertEqual(signed_set, edition.at(*signed_set[0][:2]))
        return expected[0], line


if __name__ == "__main__":
    unittest.main()
