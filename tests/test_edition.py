import unittest

from provenames.edition import Edition, publish
from provenames.errors import BadEdition
from provenames.notary import Notary
from provenames.records import KINDS
from provenames.signatures import is_valid
from provenames.zone import Zone
from tests import model
from tests.zones import mixed_zone, signed, unsigned, zone_of

LAST = 4294967295
ORG = ("org",)
TREE = ("org", "tree")
BUSH = ("org", "bush")


def rich_zone():
    """A cut with a link, a cut without one, addresses of both and below, an alias and a wildcard."""
    return zone_of(
        ORG, 300, (ORG, "text", 60, ["x"]), (ORG, "server", 61, [TREE + ("ns",)]),
        (ORG, "address", 62, [1]), (TREE, "server", 63, [TREE + ("ns",), ORG + ("z",)]),
        (TREE, "link", 64, [5, 6]), (TREE, "address", 65, [2]), (TREE + ("ns",), "address", 66, [3]),
        (BUSH, "server", 67, [()]), (BUSH, "address", 68, [4]), (BUSH + ("*",), "address", 69, [5]),
        (ORG + ("c",), "alias", 70, [()]), (ORG + ("*",), "mail", 71, [(1, ())]),
        (ORG + ("z",), "address", 72, [6]), (ORG + ("x", "y"), "text", 73, ["y"]))


def pairs_of(edition):
    return [signed_set[0][:2] for signed_set in edition]


class EditionTest(unittest.TestCase):
    def setUp(self):
        self.notary = Notary()
        self.signers = [self.notary.new_signer() for _ in range(60)]
        self.zone = rich_zone()

    def publish(self, zone=None, **changes):
        arguments = {"number": 7, "heads": self.signers[:2], "signers": self.signers[2:4],
                     "extra": [], "start": 10, "end": 20}
        arguments.update(changes)
        return publish(self.zone if zone is None else zone, **arguments)


class RefusalTest(EditionTest):
    def assert_refused(self, **changes):
        before = len(self.notary)
        with self.subTest(**changes):
            self.assertRaises(BadEdition, self.publish, **changes)
        self.assertEqual(len(self.notary), before)

    def test_numbers_starts_and_ends(self):
        for number in (0, 1, LAST - 1, LAST):
            self.assertEqual(self.publish(number=number).number, number)
        for number in (-1, LAST + 1, -LAST, 2 ** 70):
            self.assert_refused(number=number)
            self.assert_refused(number=number, heads=[], signers=[])
        self.publish(start=0)
        self.publish(end=LAST)
        self.publish(start=LAST, end=LAST)
        self.publish(start=0, end=0)
        self.assert_refused(start=-1)
        self.assert_refused(start=LAST + 1, end=LAST + 1)
        self.assert_refused(start=LAST + 1, end=LAST + 2)
        self.assert_refused(end=LAST + 1)
        self.assert_refused(start=-2, end=-1)
        self.assert_refused(start=-1, end=-1)
        self.assert_refused(end=-1)

    def test_a_start_behind_the_end(self):
        self.assertEqual((self.publish(start=20).start, self.publish(end=10).end), (20, 10))
        self.assert_refused(start=21)
        self.assert_refused(end=9)
        self.assert_refused(start=LAST, end=0)
        self.assert_refused(start=21, heads=[], signers=[])

    def test_extra_keys(self):
        self.assertEqual(self.publish(extra=[LAST, 0]).all_keys, (0, 1, 2, 3, LAST))
        for extra in ([-1], [LAST + 1], [5, -1], [LAST + 1, 5], [2 ** 70]):
            self.assert_refused(extra=extra)

    def test_heads_signers_and_extra_keys_without_the_others(self):
        one, two = self.signers[:2]
        self.assert_refused(heads=[one], signers=[])
        self.assert_refused(heads=[], signers=[two])
        self.assert_refused(heads=[one], signers=[], extra=[3])
        self.assert_refused(heads=[], signers=[two], extra=[3])
        self.assert_refused(heads=[], signers=[], extra=[3])
        self.publish(heads=[one], signers=[one], extra=[3])
        self.publish(heads=[one], signers=[two])
        self.publish(heads=[], signers=[])

    def test_many_heads_and_signers(self):
        twenty, more = self.signers[:20], self.signers[:21]
        self.assertEqual(self.publish(heads=twenty).head_keys, tuple(range(20)))
        self.assertEqual(self.publish(signers=twenty).signer_keys, tuple(range(20)))
        self.publish(heads=twenty, signers=self.signers[20:40])
        self.publish(heads=twenty + twenty[::-1], signers=twenty * 3)
        self.assert_refused(heads=more)
        self.assert_refused(signers=more)
        self.assert_refused(heads=more, signers=more)
        self.assert_refused(heads=more[::-1] + more)

    def test_many_keys(self):
        words = list(range(1000, 1096))
        self.assertEqual(len(self.publish(extra=words).all_keys), 100)
        self.assertEqual(len(self.publish(extra=words + [0, 1, 2, 3] + words).all_keys), 100)
        self.assert_refused(extra=words + [999])
        self.assert_refused(extra=list(range(101)))
        self.publish(extra=list(range(100)))
        # The keys of heads, signers and the extra ones count together.
        heads, signers = self.signers[:20], self.signers[20:40]
        edition = self.publish(heads=heads, signers=signers, extra=list(range(40, 100)))
        self.assertEqual(edition.all_keys, tuple(range(100)))
        self.publish(heads=heads, signers=signers, extra=list(range(20, 100)))
        self.assert_refused(heads=heads, signers=signers, extra=list(range(40, 101)))
        self.assert_refused(heads=heads, signers=heads, extra=list(range(20, 101)))
        between = list(range(1, 20)) + list(range(21, 100))
        self.publish(heads=heads[:1], signers=signers[:1], extra=between)
        self.assert_refused(heads=heads[:1], signers=signers[:1], extra=between + [LAST])

    def test_a_refused_call_signs_nothing_and_changes_nothing(self):
        before = list(self.zone)
        self.assert_refused(extra=[-1])
        self.assertEqual(len(self.notary), 0)
        self.assertEqual(list(self.zone), before)

    def test_arguments_by_keyword_only(self):
        self.assertRaises(TypeError, publish, self.zone, 7, [], [], [], 10, 20)


class FieldsTest(EditionTest):
    def test_fields(self):
        edition = self.publish(extra=[9, 8])
        self.assertIsInstance(edition, Edition)
        fields = {"apex": ORG, "number": 7, "start": 10, "end": 20, "head_keys": (0, 1),
                  "signer_keys": (2, 3), "all_keys": (0, 1, 2, 3, 8, 9)}
        for name, value in fields.items():
            with self.subTest(name=name):
                self.assertEqual(getattr(edition, name), value)
                self.assertIn(name, vars(edition))

    def test_keys_in_ascending_order_without_duplicates(self):
        one, two, three, four = self.signers[:4]
        edition = self.publish(heads=[three, one, three], signers=[four, three, two, four, three],
                               extra=[9, 1, 9, 0, 5])
        self.assertEqual(edition.head_keys, (0, 2))
        self.assertEqual(edition.signer_keys, (1, 2, 3))
        self.assertEqual(edition.all_keys, (0, 1, 2, 3, 5, 9))
        self.assertEqual(edition.at(ORG, "key")[0], (ORG, "key", 300, (0, 1, 2, 3, 5, 9)))
        words = [1000, 64, LAST, 8, 40, 16, 999999]
        self.assertEqual(self.publish(extra=words).all_keys, (0, 1, 2, 3, 8, 16, 40, 64, 1000, 999999, LAST))

    def test_signed(self):
        self.assertIsInstance(vars(Edition)["signed"], property)
        self.assertIs(self.publish().signed, True)
        self.assertIs(self.publish(heads=self.signers[:1], signers=self.signers[:1]).signed, True)
        edition = self.publish(heads=[], signers=[])
        self.assertIs(edition.signed, False)
        self.assertEqual((edition.head_keys, edition.signer_keys, edition.all_keys), ((), (), ()))

    def test_is_running(self):
        edition = self.publish()
        for time in (10, 11, 15, 19, 20):
            self.assertIs(edition.is_running(time), True)
        for time in (0, 8, 9, 21, 22, LAST):
            self.assertIs(edition.is_running(time), False)
        moment = self.publish(start=15, end=15, heads=[], signers=[])
        self.assertEqual([moment.is_running(time) for time in (14, 15, 16)], [False, True, False])
        always = self.publish(start=0, end=LAST)
        self.assertEqual([always.is_running(time) for time in (0, LAST)], [True, True])


class SetsTest(EditionTest):
    def test_the_sets_of_a_signed_edition_in_order(self):
        edition = self.publish()
        self.assertEqual(pairs_of(edition), [
            (ORG, "address"), (ORG, "text"), (ORG, "server"), (ORG, "start"), (ORG, "key"), (ORG, "gap"),
            (ORG + ("*",), "mail"), (ORG + ("*",), "gap"),
            (BUSH, "address"), (BUSH, "server"), (BUSH, "gap"), (BUSH + ("*",), "address"),
            (ORG + ("c",), "alias"), (ORG + ("c",), "gap"),
            (TREE, "address"), (TREE, "server"), (TREE, "link"), (TREE, "gap"),
            (TREE + ("ns",), "address"),
            (ORG + ("x", "y"), "text"), (ORG + ("x", "y"), "gap"),
            (ORG + ("z",), "address"), (ORG + ("z",), "gap"),
        ])
        for record_set in self.zone:
            self.assertEqual(edition.at(*record_set[:2])[0], record_set)

    def test_start_key_and_gap_sets(self):
        edition = self.publish(extra=[99])
        self.assertEqual(edition.at(ORG, "start")[0], (ORG, "start", 300, ((7, 300),)))
        self.assertEqual(edition.at(ORG, "key")[0], (ORG, "key", 300, (0, 1, 2, 3, 99)))
        gaps = [
            (ORG, ORG + ("*",), ("address", "text", "server", "start", "key", "gap")),
            (ORG + ("*",), BUSH, ("mail", "gap")),
            (BUSH, ORG + ("c",), ("server", "gap")),
            (ORG + ("c",), TREE, ("alias", "gap")),
            (TREE, ORG + ("x", "y"), ("server", "link", "gap")),
            (ORG + ("x", "y"), ORG + ("z",), ("text", "gap")),
            (ORG + ("z",), ORG, ("address", "gap")),
        ]
        for owner, following, kinds in gaps:
            with self.subTest(owner=owner):
                self.assertEqual(edition.at(owner, "gap")[0], (owner, "gap", 300, ((following, kinds),)))
        self.assertEqual([owner for owner, kind in pairs_of(edition) if kind == "gap"],
                         [gap[0] for gap in gaps])
        self.assertEqual(edition.owners(), [gap[0] for gap in gaps])

    def test_the_apex_alone(self):
        for apex in ((), ORG, ("a",) * 12):
            edition = signed(Zone(apex, 0), number=0)
            self.assertEqual([signed_set[0] for signed_set in edition], [
                (apex, "start", 0, ((0, 0),)), (apex, "key", 0, (0, 1)),
                (apex, "gap", 0, ((apex, ("start", "key", "gap")),))])
            self.assertEqual([len(signed_set[1]) for signed_set in edition], [1, 1, 1])
            self.assertEqual(edition.owners(), [apex])
            plain = unsigned(Zone(apex, LAST), number=LAST)
            self.assertEqual(list(plain), [((apex, "start", LAST, ((LAST, LAST),)), ())])

    def test_the_example_of_the_document(self):
        zone = zone_of((), 5, (("a", "b"), "address", 1, [1]), (("d",), "text", 1, ["x"]))
        edition = signed(zone)
        self.assertEqual(edition.owners(), [(), ("a", "b"), ("d",)])
        self.assertEqual([edition.at(owner, "gap")[0][3][0] for owner in edition.owners()], [
            (("a", "b"), ("start", "key", "gap")), (("d",), ("address", "gap")), ((), ("text", "gap"))])

    def test_kinds_of_a_gap_in_the_order_of_kinds(self):
        zone = zone_of((), 5, ((), "mail", 1, [(1, ())]), ((), "server", 1, [()]), ((), "text", 1, [""]),
                       ((), "address", 1, [1]), (("a",), "mail", 1, [(1, ())]),
                       (("a",), "address", 1, [1]), (("a",), "text", 1, [""]))
        edition = signed(zone)
        self.assertEqual(edition.at((), "gap")[0][3][0][1], (
            "address", "text", "mail", "server", "start", "key", "gap"))
        self.assertEqual(edition.at(("a",), "gap")[0][3][0][1], ("address", "text", "mail", "gap"))

    def test_at(self):
        edition = self.publish()
        pairs = pairs_of(edition)
        for signed_set in edition:
            self.assertEqual(edition.at(*signed_set[0][:2]), signed_set)
        for name in edition.owners() + [(), ORG + ("x",), ORG + ("q",), TREE + ("ns",), ("com",)]:
            for kind in KINDS:
                if (name, kind) not in pairs:
                    with self.subTest(name=name, kind=kind):
                        self.assertIsNone(edition.at(name, kind))

    def test_cuts_and_owners(self):
        edition = self.publish()
        self.assertEqual(edition.cuts(), [BUSH, TREE])
        self.assertEqual(edition.owners(), self.zone.owners())
        plain = self.publish(heads=[], signers=[])
        self.assertEqual((plain.cuts(), plain.owners()), (edition.cuts(), edition.owners()))

    def test_without_heads_there_are_no_key_and_gap_sets_and_no_signatures(self):
        edition = self.publish(heads=[], signers=[])
        self.assertEqual(len(self.notary), 0)
        start = (ORG, "start", 300, ((7, 300),))
        expected = list(self.zone)
        expected.insert(3, start)
        self.assertEqual(list(edition), [(record_set, ()) for record_set in expected])
        self.assertIsNone(edition.at(ORG, "key"))
        self.assertIsNone(edition.at(ORG, "gap"))

    def test_against_the_points_one_by_one(self):
        for seed in range(80):
            apex, quiet, zone, table = mixed_zone(seed)
            keys = [0, 1, 3]
            for edition, keys in ((signed(zone, extra=[3], number=seed), [0, 1, 3]),
                                  (unsigned(zone, number=seed), [])):
                made = model.edition_table(apex, quiet, table, seed, keys)
                with self.subTest(seed=seed, keys=keys):
                    self.assertEqual([given[0] for given in edition], model.in_order(made))
                    self.assertEqual(edition.cuts(), model.cuts_of(apex, table))
                    self.assertEqual(edition.owners(), model.proper_owners(apex, table))
                    self.check_signed(edition, apex, table, keys)

    def check_signed(self, edition, apex, table, keys):
        cuts = model.cuts_of(apex, table)
        for (owner, kind, _, _), signatures in edition:
            bare = not keys or (kind == "server" and owner in cuts) or (
                kind == "address" and any(model.lies_in(owner, cut) for cut in cuts))
            signer = 0 if kind == "key" else 1
            self.assertEqual([made[1] for made in signatures], [] if bare else [signer])


class SigningTest(EditionTest):
    def test_numbers_and_order_of_the_signatures(self):
        self.signers[50].sign(("before",))
        zone = zone_of(ORG, 300, (TREE, "server", 1, [()]), (TREE, "link", 2, [5]),
                       (TREE, "address", 3, [1]), (TREE + ("a",), "address", 4, [1]),
                       (ORG, "server", 5, [()]), (ORG + ("a",), "address", 6, [1]))
        one, two, three, four = self.signers[:4]
        edition = self.publish(zone, heads=[four, one], signers=[three, one, two])

        def by(number, *keys):
            return tuple((ORG, key, 7, 10, 20, number + k) for k, key in enumerate(keys))

        self.assertEqual([(given[0][:2], given[1]) for given in edition], [
            ((ORG, "server"), by(1, 0, 1, 2)),
            ((ORG, "start"), by(4, 0, 1, 2)),
            ((ORG, "key"), by(7, 0, 3)),
            ((ORG, "gap"), by(9, 0, 1, 2)),
            ((ORG + ("a",), "address"), by(12, 0, 1, 2)),
            ((ORG + ("a",), "gap"), by(15, 0, 1, 2)),
            ((TREE, "address"), ()),
            ((TREE, "server"), ()),
            ((TREE, "link"), by(18, 0, 1, 2)),
            ((TREE, "gap"), by(21, 0, 1, 2)),
            ((TREE + ("a",), "address"), ()),
        ])
        self.assertEqual(len(self.notary), 24)

    def test_all_signatures_are_valid(self):
        edition = self.publish()
        for record_set, signatures in edition:
            for signature in signatures:
                for time in (9, 10, 15, 20, 21):
                    self.assertIs(is_valid(self.notary, signature, record_set, time), 10 <= time <= 20)

    def test_a_head_or_signer_that_is_listed_twice_signs_once(self):
        one, two = self.signers[:2]
        zone = Zone(ORG, 5)
        for heads, signers in (([one, one], [two]), ([one], [two, two]), ([one] * 3, [two] * 4)):
            before = len(self.notary)
            edition = self.publish(zone, heads=heads, signers=signers)
            self.assertEqual(len(self.notary), before + 3)
            self.assertEqual([len(given[1]) for given in edition], [1, 1, 1])

    def test_any_order_gives_the_same_edition(self):
        orders = [((0, 1), (2, 3)), ((1, 0), (3, 2)), ((1, 0, 1), (3, 3, 2)), ((0, 0, 1), (2, 3, 2))]
        made = []
        for heads, signers in orders:
            notary = Notary()
            pool = [notary.new_signer() for _ in range(4)]
            made.append(list(self.publish(
                heads=[pool[k] for k in heads], signers=[pool[k] for k in signers])))
        self.assertEqual(made, [made[0]] * 4)

    def test_the_same_signer_as_head_and_signer(self):
        one, two = self.signers[:2]
        edition = self.publish(Zone(ORG, 5), heads=[one], signers=[two, one])
        self.assertEqual((edition.head_keys, edition.signer_keys, edition.all_keys), ((0,), (0, 1), (0, 1)))
        self.assertEqual([[made[1] for made in given[1]] for given in edition], [[0, 1], [0], [0, 1]])

    def test_extra_keys_sign_nothing(self):
        edition = self.publish(Zone(ORG, 5), heads=self.signers[:1], signers=self.signers[1:2],
                               extra=[2, 3])
        self.assertEqual([[made[1] for made in given[1]] for given in edition], [[1], [0], [1]])
        self.assertEqual(len(self.notary), 3)


class CopyTest(EditionTest):
    def test_later_changes_of_the_zone_change_nothing(self):
        edition = self.publish()
        before = (list(edition), edition.cuts(), edition.owners())
        self.zone.put(ORG, "text", 1, ["other"])
        self.zone.put(ORG + ("new",), "server", 1, [()])
        self.zone.drop(TREE, "link")
        self.zone.drop(TREE, "server")
        self.assertEqual((list(edition), edition.cuts(), edition.owners()), before)
        self.assertEqual(edition.at(ORG, "text")[0], (ORG, "text", 60, ("x",)))
        self.assertEqual(edition.at(TREE, "link")[0][3], (5, 6))
        self.assertIsNone(edition.at(ORG + ("new",), "server"))

    def test_publishing_changes_no_zone(self):
        before = (list(self.zone), self.zone.cuts(), self.zone.owners())
        self.publish()
        self.assertEqual((list(self.zone), self.zone.cuts(), self.zone.owners()), before)
        self.assertNotIn((ORG, "start"), self.zone)
        self.assertNotIn((ORG, "gap"), self.zone)

    def test_lists_that_are_passed(self):
        heads, signers, extra = self.signers[1::-1], self.signers[3:1:-1], [9, 8, 9]
        kept = list(heads), list(signers), list(extra)
        edition = self.publish(heads=heads, signers=signers, extra=extra)
        self.assertEqual((heads, signers, extra), kept)
        before = list(edition)
        for passed in (heads, signers, extra):
            passed.clear()
        self.assertEqual(list(edition), before)
        self.assertEqual(edition.head_keys + edition.signer_keys, (0, 1, 2, 3))
        self.assertEqual(edition.all_keys, (0, 1, 2, 3, 8, 9))
        self.assertIs(edition.signed, True)

    def test_returned_lists_are_copies(self):
        edition = self.publish()
        before = (list(edition), list(edition.cuts()), list(edition.owners()))
        for given in (edition.cuts(), edition.owners(), list(edition)):
            given.reverse()
            given.clear()
        self.assertEqual((list(edition), edition.cuts(), edition.owners()), before)

    def test_two_editions_of_a_zone(self):
        first = self.publish()
        self.zone.put(ORG + ("q",), "text", 1, ["q"])
        second = self.publish(number=8)
        self.assertIsNone(first.at(ORG + ("q",), "text"))
        self.assertIsNotNone(second.at(ORG + ("q",), "text"))
        self.assertEqual((first.number, second.number), (7, 8))
        self.assertEqual(first.at(ORG, "start")[0][3], ((7, 300),))
        self.assertEqual(second.at(ORG, "start")[0][3], ((8, 300),))


if __name__ == "__main__":
    unittest.main()
