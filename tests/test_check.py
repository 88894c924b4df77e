import unittest

from provenames.check import check
from provenames.edition import publish
from provenames.notary import Notary
from provenames.records import make_set
from provenames.rules import follows
from provenames.signatures import sign_set
from tests.zones import zone_of

ORG, TREE, BUSH = ("org",), ("org", "tree"), ("org", "bush")


def answer(name, kind, *outcome):
    return ("answer", name, kind, outcome)


class CheckTest(unittest.TestCase):
    """A signed root with a link to ORG, and a signed ORG; each has one head and one signer."""

    def setUp(self):
        self.notary = Notary()
        root_head, root_signer, head, signer = [self.notary.new_signer() for _ in range(4)]
        root = zone_of((), 300, (ORG, "server", 60, [ORG + ("ns",)]), (ORG, "link", 60, [head.key, 77]))
        org = zone_of(
            ORG, 300, (ORG, "text", 60, ["x"]), (ORG + ("c",), "alias", 61, [TREE]),
            (TREE, "server", 62, [()]), (TREE, "link", 63, [8]), (BUSH, "server", 64, [()]),
            (ORG + ("w", "*"), "mail", 65, [(1, ())]), (ORG + ("v", "*"), "alias", 66, [BUSH]))
        self.root = publish(
            root, number=3, heads=[root_head], signers=[root_signer], extra=[], start=10, end=20)
        self.org = publish(org, number=5, heads=[head], signers=[signer], extra=[], start=12, end=18)
        self.anchors = [((), root_head.key)]

    def base(self):
        """The steps from the anchor down to the signer of ORG, whose key is trusted in the last one."""
        keys, link, org_keys = self.root.at((), "key"), self.root.at(ORG, "link"), self.org.at(ORG, "key")
        return [
            ("anchor", ("key", (), 0), (), None),
            ("signature", ("set", (), 3, keys[0]), (0,), keys),
            ("keys", ("key", (), 1), (1,), None),
            ("signature", ("set", (), 3, link[0]), (2,), link),
            ("link", ("key", ORG, 2), (3,), None),
            ("signature", ("set", ORG, 5, org_keys[0]), (4,), org_keys),
            ("keys", ("key", ORG, 3), (5,), None),
        ]

    def with_sets(self, rule, fact, *pairs):
        """The base, the sets of ORG with these owners and kinds, and the last step from them."""
        steps = self.base()
        for owner, kind in pairs:
            signed_set = self.org.at(owner, kind)
            steps.append(("signature", ("set", ORG, 5, signed_set[0]), (6,), signed_set))
        return steps + [(rule, fact, tuple(range(7, 7 + len(pairs))), None)]

    def derivations(self):
        none, noname, gap = ("nodata",), ("noname",), "gap"
        star, wild = ORG + ("w", "*"), ORG + ("v", "*")
        return [
            self.base(),
            self.with_sets("data", answer(ORG, "text", "data", 60, ("x",)), (ORG, "text")),
            self.with_sets("data", answer(TREE, "link", "data", 63, (8,)), (TREE, "link")),
            self.with_sets("link", ("key", TREE, 8), (TREE, "link")),
            self.with_sets("alias", answer(ORG + ("c",), "text", "alias", 61, TREE), (ORG + ("c",), "alias")),
            self.with_sets("nokind", answer(ORG, "mail", *none), (ORG, gap)),
            self.with_sets("nokind", answer(BUSH, "link", *none), (BUSH, gap)),
            self.with_sets("empty", answer(ORG + ("w",), "mail", *none), (wild, gap)),
            self.with_sets("noname", answer(ORG + ("z",), "text", *noname), (star, gap), (ORG, gap)),
            self.with_sets("wilddata", answer(ORG + ("w", "a"), "mail", "data", 65, ((1, ()),)),
                           (star, gap), (star, "mail")),
            self.with_sets("wildalias", answer(ORG + ("v", "a"), "mail", "alias", 66, BUSH),
                           (wild, gap), (wild, "alias")),
            self.with_sets("wildnokind", answer(ORG + ("w", "a"), "text", *none), (star, gap), (star, gap)),
            self.with_sets("unlinked", ("unlinked", BUSH), (BUSH, gap)),
        ]

    def result(self, steps, *, notary=None, anchors=None, time=15):
        steps, before = list(steps), list(steps)
        found = check(self.notary if notary is None else notary,
                      self.anchors if anchors is None else anchors, time, steps)
        self.assertIn(found, (True, False))
        self.assertEqual(steps, before)
        return found

    def test_the_empty_list(self):
        self.assertIs(self.result([]), True)
        self.assertIs(self.result([], notary=Notary(), anchors=[]), True)

    def test_each_form_of_answer(self):
        for steps in self.derivations():
            with self.subTest(step=steps[-1]):
                self.assertIs(self.result(steps), True)
                for length in range(len(steps)):
                    self.assertIs(self.result(steps[:length]), True)

    def test_each_step_follows_from_the_facts_before_it(self):
        for steps in self.derivations():
            facts = [step[1] for step in steps]
            for place, step in enumerate(steps):
                self.assertIs(follows(self.notary, self.anchors, 15, facts[:place], step), True)

    def test_one_step_left_out(self):
        for steps in self.derivations():
            for place in range(len(steps) - 1):
                with self.subTest(step=steps[-1], place=place):
                    self.assertIs(self.result(steps[:place] + steps[place + 1:]), False)

    def test_one_step_moved(self):
        for steps in self.derivations():
            for place in range(1, len(steps)):
                with self.subTest(step=steps[-1], place=place):
                    moved = [steps[place]] + steps[:place] + steps[place + 1:]
                    self.assertIs(self.result(moved), False)
                    moved = steps[:place - 1] + [steps[place], steps[place - 1]] + steps[place + 1:]
                    swapped = [step[:2] + (tuple(
                        {place: place - 1, place - 1: place}.get(index, index) for index in step[2]),) + step[3:]
                        for step in moved]
                    self.assertIs(self.result(swapped), place - 1 not in steps[place][2])

    def test_one_step_changed(self):
        record_set = make_set(ORG, "text", 60, ["y"])
        for steps in self.derivations():
            for place, (rule, fact, premises, signed_set) in enumerate(steps):
                for changed in (("rule", fact, premises, signed_set), (rule, ("key", ORG, 99), premises, signed_set),
                                (rule, fact, premises + (0,), signed_set), (rule, fact, premises[1:] + (-1,), None),
                                (rule, ("unlinked", ()), premises, signed_set),
                                (rule, fact, premises, (record_set, ()))):
                    with self.subTest(step=steps[-1], place=place, changed=changed):
                        self.assertIs(self.result(steps[:place] + [changed] + steps[place + 1:]), False)

    def test_a_step_that_leads_to_itself_or_to_a_later_one(self):
        for steps in self.derivations():
            for place, (rule, fact, premises, signed_set) in enumerate(steps):
                for k in range(len(premises)):
                    for index in (place, place + 1, len(steps) - 1, len(steps)):
                        if index >= place:
                            changed = premises[:k] + (index,) + premises[k + 1:]
                            step = (rule, fact, changed, signed_set)
                            self.assertIs(self.result(steps[:place] + [step] + steps[place + 1:]), False)
        # Two key sets that name each other's keys are no derivation of either.
        one, two = [self.notary.new_signer() for _ in range(2)]
        first, second = make_set(ORG, "key", 1, [two.key]), make_set(ORG, "key", 2, [one.key])
        signatures = [(sign_set(signer, record_set, zone=ORG, edition=1, start=0, end=99),)
                      for signer, record_set in ((one, first), (two, second))]
        circle = [
            ("keys", ("key", ORG, one.key), (3,), None),
            ("signature", ("set", ORG, 1, first), (0,), (first, signatures[0])),
            ("keys", ("key", ORG, two.key), (1,), None),
            ("signature", ("set", ORG, 1, second), (2,), (second, signatures[1])),
        ]
        self.assertIs(self.result(circle), False)
        begun = [("anchor", ("key", ORG, one.key), (), None)] + circle[1:]
        self.assertIs(self.result(begun, anchors=[(ORG, one.key)]), True)

    def test_another_time(self):
        for steps in self.derivations():
            for time, expected in ((12, True), (18, True), (11, False), (19, False), (9, False), (0, False)):
                self.assertIs(self.result(steps, time=time), expected)
        for time, expected in ((10, True), (20, True), (9, False), (21, False)):
            self.assertIs(self.result(self.base()[:4], time=time), expected)

    def test_other_anchors(self):
        for steps in self.derivations():
            self.assertIs(self.result(steps, anchors=[]), False)
            self.assertIs(self.result(steps, anchors=[((), 1), (ORG, 0)]), False)
            self.assertIs(self.result(steps, anchors=[((), 1), ((), 0), (ORG, 0)]), True)

    def test_another_notary(self):
        other = Notary()
        for _ in range(4):
            other.new_signer().sign(())
        for steps in self.derivations():
            self.assertIs(self.result(steps, notary=Notary()), False)
            self.assertIs(self.result(steps, notary=other), False)
            self.assertIs(self.result(steps[:1], notary=other), True)

    def test_the_same_step_twice(self):
        for steps in self.derivations():
            self.assertIs(self.result(steps + steps[-1:]), True)
            self.assertIs(self.result(steps[:1] + steps), False)

    def test_many_steps(self):
        signers = [self.notary.new_signer() for _ in range(700)]
        anchors = [(ORG, signers[0].key)]
        steps = [("anchor", ("key", ORG, signers[0].key), (), None)]
        for signer, following in zip(signers, signers[1:]):
            keys = make_set(ORG, "key", 1, [following.key])
            signature = sign_set(signer, keys, zone=ORG, edition=signer.key, start=0, end=99)
            steps.append(("signature", ("set", ORG, signer.key, keys), (len(steps) - 1,), (keys, (signature,))))
            steps.append(("keys", ("key", ORG, following.key), (len(steps) - 1,), None))
        self.assertEqual(len(steps), 1399)
        for _ in range(2):
            self.assertIs(self.result(steps, anchors=anchors), True)
            self.assertIs(self.result(steps + [("keys", ("key", ORG, 0), (1397,), None)], anchors=anchors), False)
            self.assertIs(self.result(steps[:700] + steps[701:], anchors=anchors), False)
            # More steps than the document limits lists to.
            steps = steps + steps[-1:] * 1000


if __name__ == "__main__":
    unittest.main()
