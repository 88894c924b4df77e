import random
import unittest

from provenames.desk import Desk
from provenames.edition import publish
from provenames.errors import DeskConflict
from provenames.notary import Notary
from provenames.zone import Zone
from tests.zones import zone_of

ORG, TREE, COM = ("org",), ("org", "tree"), ("com",)


class DeskTest(unittest.TestCase):
    def setUp(self):
        self.notary = Notary()
        self.signers = [self.notary.new_signer() for _ in range(8)]
        self.numbers = 0

    def edition(self, apex=ORG, *, heads=(0,), signers=(1,), extra=(), start=10, end=20, number=None, links=()):
        """An edition, signed by signers that are given by their keys; each link is a cut and keys."""
        self.numbers += 1
        zone = zone_of(apex, 60)
        for cut, keys in links:
            zone.put(cut, "server", 5, [cut + ("ns",)])
            zone.put(cut, "link", 5, keys)
        return publish(
            zone, number=self.numbers if number is None else number, start=start, end=end,
            heads=[self.signers[key] for key in heads], signers=[self.signers[key] for key in signers],
            extra=list(extra))

    def plain(self, apex=ORG, **changes):
        return self.edition(apex, heads=(), signers=(), **changes)

    def accepts(self, *editions, anchors=()):
        """Whether a new desk accepts the last one after the others."""
        desk = Desk(list(anchors))
        for edition in editions[:-1]:
            self.assertIsNone(desk.accept(edition))
        last = editions[-1]
        before = {(apex, time): desk.running(apex, time) for apex in (ORG, TREE, COM, ()) for time in range(40)}
        try:
            self.assertIsNone(desk.accept(last))
        except DeskConflict:
            for (apex, time), running in before.items():
                self.assertEqual(desk.running(apex, time), running)
            return False
        self.assertIn(last, desk.running(last.apex, last.start))
        return True

    def assert_both_orders(self, expected, *editions, anchors=()):
        with self.subTest(editions=[edition.number for edition in editions]):
            self.assertEqual(self.accepts(*editions, anchors=anchors), expected)
            self.assertEqual(self.accepts(*editions[::-1], anchors=anchors), expected)


class NumberTest(DeskTest):
    def test_the_same_number_again(self):
        for other in (self.edition(number=7), self.edition(number=7, start=30, end=39), self.plain(number=7)):
            self.assert_both_orders(False, self.edition(number=7), other)
        edition = self.edition()
        self.assertFalse(self.accepts(edition, edition))
        self.assertTrue(self.accepts(self.edition(number=7), self.edition(number=8)))
        self.assertTrue(self.accepts(self.edition(number=0), self.edition(number=1)))
        self.assertFalse(self.accepts(self.edition(number=7), self.edition(number=8), self.edition(number=7)))

    def test_the_same_number_of_another_zone(self):
        for apex in ((), TREE, COM):
            self.assert_both_orders(True, self.edition(number=7), self.edition(apex, number=7))

    def test_the_number_of_a_refused_edition(self):
        desk = Desk([(ORG, 0)])
        self.assertRaises(DeskConflict, desk.accept, self.edition(number=7, heads=(2,)))
        desk.accept(self.edition(number=7))
        self.assertRaises(DeskConflict, desk.accept, self.edition(number=7))


class SignersTest(DeskTest):
    def test_the_signers_of_editions_that_overlap(self):
        for first, second, expected in (
            # The signers, the heads and the extra keys of each one.
            (((1,), (0,), ()), ((1,), (0,), ()), True), (((1,), (0,), ()), ((2,), (0,), ()), False),
            (((1,), (0,), (2,)), ((2,), (0,), ()), False), (((1,), (0,), ()), ((2,), (0,), (1,)), False),
            (((1,), (0,), (2,)), ((2,), (0,), (1,)), True), (((1,), (2,), ()), ((2,), (1,), ()), True),
            (((1, 3), (0,), ()), ((2, 3), (0,), ()), True), (((1, 3), (0,), ()), ((2, 4), (0,), ()), False),
            (((1, 3), (0,), (4,)), ((2, 4), (0,), (3,)), True), (((1,), (0,), ()), ((2, 1), (5,), ()), True),
            # The heads alone do not count.
            (((1,), (0,), ()), ((2,), (0,), (0,)), False), (((1,), (0,), ()), ((0,), (3,), ()), False),
            (((1,), (0,), ()), ((0,), (1,), ()), True),
        ):
            one, two = [self.edition(signers=signers, heads=heads, extra=extra)
                        for signers, heads, extra in (first, second)]
            self.assert_both_orders(expected, one, two)

    def test_times(self):
        one = self.edition()
        for start, end, expected in (
            (21, 30, True), (20, 30, False), (19, 30, False), (0, 9, True), (0, 10, False), (0, 11, False),
            (12, 15, False), (0, 39, False), (10, 20, False), (10, 10, False), (20, 20, False), (9, 9, True),
            (21, 21, True),
        ):
            with self.subTest(start=start, end=end):
                self.assert_both_orders(expected, one, self.edition(signers=(2,), start=start, end=end))

    def test_editions_that_are_not_signed(self):
        self.assert_both_orders(True, self.edition(), self.plain())
        self.assert_both_orders(True, self.plain(), self.plain())

    def test_other_zones(self):
        for apex in ((), TREE, COM):
            self.assert_both_orders(True, self.edition(), self.edition(apex, signers=(2,), heads=(3,)))

    def test_each_accepted_edition_counts(self):
        one, two = self.edition(start=0, end=10), self.edition(signers=(2,), start=20, end=30)
        both = self.edition(signers=(1, 2), start=5, end=25)
        self.assertTrue(self.accepts(one, two, both))
        self.assertFalse(self.accepts(one, two, self.edition(signers=(1,), start=5, end=25)))
        self.assertFalse(self.accepts(one, two, self.edition(signers=(2,), start=5, end=25)))
        self.assertFalse(self.accepts(both, self.edition(signers=(3,), start=0, end=5)))
        self.assertTrue(self.accepts(both, self.edition(signers=(3,), start=0, end=4)))


class LinkTest(DeskTest):
    def test_links_and_heads(self):
        for keys, heads, expected in (([0], (0,), True), ([0, 9], (0,), True), ([9], (0,), False),
                                      ([0, 9], (3,), False), ([3], (0, 3), True), ([1], (0,), False)):
            with self.subTest(keys=keys, heads=heads):
                below = self.edition(TREE, heads=heads)
                for apex in (ORG, ()):
                    above = self.edition(apex, links=[(TREE, keys)], signers=(5,), heads=(6,))
                    self.assert_both_orders(expected, above, below)

    def test_editions_that_are_not_signed(self):
        above = self.edition(links=[(TREE, [0])])
        self.assert_both_orders(False, above, self.plain(TREE))
        self.assert_both_orders(True, self.plain(links=[(TREE, [0])]), self.edition(TREE))
        self.assert_both_orders(False, self.plain(links=[(TREE, [0])]), self.plain(TREE))
        self.assert_both_orders(True, above, self.plain(COM))

    def test_times(self):
        above = self.edition(links=[(TREE, [9])])
        for start, end, expected in (
            (21, 30, True), (20, 30, False), (0, 9, True), (0, 10, False), (12, 15, False), (0, 39, False),
        ):
            with self.subTest(start=start, end=end):
                self.assert_both_orders(expected, above, self.edition(TREE, start=start, end=end))
                self.assert_both_orders(expected, above, self.plain(TREE, start=start, end=end))

    def test_cuts_without_a_link(self):
        above = zone_of(ORG, 60, (TREE, "server", 5, [()]))
        above = publish(above, number=1, heads=self.signers[:1], signers=self.signers[:1], extra=[], start=10, end=20)
        self.assert_both_orders(True, above, self.edition(TREE))
        self.assert_both_orders(True, above, self.plain(TREE))

    def test_several_links_and_zones(self):
        above = self.edition((), links=[(ORG, [0]), (COM, [3]), (("net",), [4])])
        self.assertTrue(self.accepts(above, self.edition(ORG), self.edition(COM, heads=(3,))))
        self.assertFalse(self.accepts(above, self.edition(ORG), self.edition(COM, heads=(0,))))
        self.assertFalse(self.accepts(self.edition(ORG), self.edition(COM, heads=(0,)), above))
        self.assertFalse(self.accepts(self.edition(COM, heads=(0,)), self.edition(ORG), above))
        self.assertTrue(self.accepts(self.edition(ORG), self.edition(COM, heads=(3,)), above))

    def test_each_accepted_edition_counts(self):
        old, new = self.edition(ORG, start=0, end=14), self.edition(ORG, heads=(3,), start=15, end=30)
        for start, end, keys, expected in (
            (0, 30, [0], False), (0, 30, [3], False), (0, 30, [0, 3], True), (0, 14, [0], True),
            (15, 30, [3], True), (14, 20, [3], False), (14, 15, [0], False), (31, 39, [9], True),
        ):
            with self.subTest(start=start, end=end, keys=keys):
                above = self.edition((), links=[(ORG, keys)], start=start, end=end)
                self.assertEqual(self.accepts(old, new, above), expected)
                self.assertEqual(self.accepts(above, old, new) if self.accepts(above, old) else False, expected)

    def test_two_zones_above(self):
        root = self.edition((), links=[(TREE, [0])])
        org = self.edition(ORG, links=[(TREE, [3])])
        self.assertTrue(self.accepts(root, org, self.edition(TREE, heads=(0, 3))))
        self.assertFalse(self.accepts(root, org, self.edition(TREE, heads=(0,))))
        self.assertFalse(self.accepts(root, org, self.edition(TREE, heads=(3,))))


class AnchorTest(DeskTest):
    def test_anchors(self):
        for anchors, heads, expected in (
            ([], (0,), True), ([(ORG, 0)], (0,), True), ([(ORG, 1)], (0,), False), ([(ORG, 9)], (0,), False),
            ([(ORG, 9), (ORG, 0)], (0,), True), ([(ORG, 3), (ORG, 0)], (3,), True), ([(ORG, 3)], (0, 3), True),
            ([(TREE, 9), ((), 9), (COM, 9)], (0,), True), ([(TREE, 0), (ORG, 9)], (0,), False),
            ([(("*",), 9)], (0,), True),
        ):
            with self.subTest(anchors=anchors, heads=heads):
                self.assertEqual(self.accepts(self.edition(heads=heads), anchors=anchors), expected)
                self.assertEqual(self.accepts(self.plain(), anchors=anchors),
                                 ORG not in [zone for zone, _ in anchors])

    def test_anchors_count_at_any_time(self):
        for start, end in ((0, 0), (0, 4294967295), (4294967295, 4294967295)):
            edition = self.edition(start=start, end=end)
            self.assertRaises(DeskConflict, Desk([(ORG, 9)]).accept, edition)
            Desk([(ORG, 0)]).accept(edition)

    def test_a_list_of_anchors_that_is_changed(self):
        anchors = [(ORG, 0)]
        desk = Desk(anchors)
        anchors[0] = (ORG, 9)
        desk.accept(self.edition())
        anchors.clear()
        self.assertRaises(DeskConflict, desk.accept, self.edition(heads=(3,)))
        self.assertEqual(anchors, [])


class RunningTest(DeskTest):
    def test_running(self):
        desk = Desk([])
        self.assertEqual(desk.running(ORG, 10), [])
        late, early = self.edition(number=3, start=10, end=20), self.edition(number=8, start=15, end=30)
        plain, other = self.plain(number=5, start=0, end=39), self.edition(TREE, number=4, start=0, end=39)
        for edition in (early, late, plain, other):
            desk.accept(edition)
        for time, expected in ((0, [plain]), (9, [plain]), (10, [late, plain]), (15, [late, plain, early]),
                               (20, [late, plain, early]), (21, [plain, early]), (30, [plain, early]),
                               (31, [plain]), (40, [])):
            self.assertEqual(desk.running(ORG, time), expected)
        self.assertEqual(desk.running(TREE, 15), [other])
        for zone in ((), COM, ("*",), TREE + ("a",)):
            self.assertEqual(desk.running(zone, 15), [])

    def test_the_order_of_numbers(self):
        numbers = [5, 0, 4294967295, 12, 1, 7]
        desk = Desk([])
        for number in numbers:
            desk.accept(self.edition(number=number))
        self.assertEqual([edition.number for edition in desk.running(ORG, 15)], sorted(numbers))

    def test_a_returned_list_that_is_changed_changes_nothing(self):
        desk = Desk([])
        edition = self.edition()
        desk.accept(edition)
        desk.running(ORG, 15).clear()
        desk.running(COM, 15).append(edition)
        self.assertEqual((desk.running(ORG, 15), desk.running(COM, 15)), ([edition], []))
        self.assertRaises(DeskConflict, desk.accept, self.edition(signers=(2,)))

    def test_a_refused_edition_changes_nothing(self):
        desk = Desk([(COM, 0)])
        desk.accept(self.edition(links=[(TREE, [0])]))
        for refused in (self.edition(signers=(2,), links=[(TREE, [3])]), self.edition(TREE, heads=(3,)),
                        self.plain(TREE), self.edition(COM, heads=(3,)), self.edition((), links=[(ORG, [9])])):
            self.assertRaises(DeskConflict, desk.accept, refused)
            self.assertEqual(desk.running(refused.apex, 15), desk.running(ORG, 15) if refused.apex == ORG else [])
        self.assertEqual(len(desk.running(ORG, 15)), 1)
        desk.accept(self.edition(TREE))
        desk.accept(self.edition(COM, heads=(0,)))
        desk.accept(self.edition((), heads=(4,), signers=(5,), links=[(ORG, [0])]))

    def test_desks_are_apart(self):
        edition = self.edition()
        Desk([]).accept(edition)
        desk = Desk([])
        self.assertEqual(desk.running(ORG, 15), [])
        desk.accept(edition)


class AgainstTheDocumentTest(DeskTest):
    """Point 38 as it stands there, over random editions in random orders."""

    def is_accepted(self, anchors, accepted, one):
        def overlap(other):
            return any(edition_runs(one, time) and edition_runs(other, time) for time in range(40))

        def linked(edition):
            return [record_set for record_set, _ in edition if record_set[1] == "link"]

        if any(other.apex == one.apex and other.number == one.number for other in accepted):
            return False
        for other in [other for other in accepted if overlap(other)]:
            if other.apex == one.apex and one.signed and other.signed:
                if not set(one.signer_keys) & set(other.all_keys):
                    return False
                if not set(other.signer_keys) & set(one.all_keys):
                    return False
            for above, below in ((one, other), (other, one)):
                for owner, _, _, keys in linked(above):
                    if owner == below.apex and not set(keys) & set(below.head_keys):
                        return False
        keys = {key for zone, key in anchors if zone == one.apex}
        return not keys or bool(keys & set(one.head_keys))

    def random_edition(self, chance):
        apex = chance.choice([(), ORG, TREE, COM])
        cuts = [cut for cut in (ORG, TREE, COM) if cut != apex and cut[:len(apex)] == apex]
        cuts = [cut for cut in cuts if chance.random() < 0.4]
        if ORG in cuts and TREE in cuts:
            cuts.remove(TREE)
        start = chance.randrange(40)
        signed = chance.random() < 0.8
        return self.edition(
            apex, number=chance.randrange(8), start=start, end=chance.randrange(start, 40),
            heads=chance.sample(range(4), chance.choice([1, 2, 3])) if signed else (),
            signers=chance.sample(range(4), chance.choice([1, 2])) if signed else (),
            extra=chance.sample(range(4), chance.choice([0, 2])) if signed else (),
            links=[(cut, chance.sample(range(4), chance.choice([1, 2, 3]))) for cut in cuts])

    def test_random_editions(self):
        counts = {True: 0, False: 0}
        for seed in range(40):
            chance = random.Random(seed)
            anchors = [(chance.choice([(), ORG, TREE]), chance.randrange(4)) for _ in range(seed % 3)]
            desk, accepted = Desk(anchors), []
            for _ in range(25):
                edition = self.random_edition(chance)
                expected = self.is_accepted(anchors, accepted, edition)
                counts[expected] += 1
                if expected:
                    self.assertIsNone(desk.accept(edition))
                    accepted.append(edition)
                else:
                    self.assertRaises(DeskConflict, desk.accept, edition)
                zone, time = chance.choice([(), ORG, TREE, COM]), chance.randrange(40)
                running = [one for one in accepted if one.apex == zone and edition_runs(one, time)]
                self.assertEqual(desk.running(zone, time), sorted(running, key=lambda one: one.number))
        self.assertGreater(min(counts.values()), 200)


def edition_runs(edition, time):
    return edition.start <= time <= edition.end


class ZoneTest(DeskTest):
    def test_later_changes_of_a_zone_do_not_count(self):
        zone = Zone(ORG, 60)
        zone.put(TREE, "server", 5, [()])
        zone.put(TREE, "link", 5, [9])
        edition = publish(zone, number=1, heads=self.signers[:1], signers=self.signers[:1], extra=[], start=10, end=20)
        desk = Desk([])
        desk.accept(edition)
        zone.put(TREE, "link", 5, [0])
        self.assertRaises(DeskConflict, desk.accept, self.edition(TREE))


if __name__ == "__main__":
    unittest.main()
