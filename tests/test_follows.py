"""The rules of point 28, each one kept and broken in each of its conditions."""

import unittest

from provenames.notary import Notary
from provenames.records import KINDS, make_set
from provenames.rules import follows
from provenames.signatures import sign_set

ORG, TREE, NAME = ("org",), ("org", "tree"), ("org", "m")
STAR = ("org", "*")
ASKED = tuple(kind for kind in KINDS if kind != "gap")
RULES = ("anchor", "signature", "keys", "link", "data", "alias", "nokind", "empty", "noname", "wilddata",
         "wildalias", "wildnokind", "unlinked")
TWELVE = tuple("abcdefghijkl")


def gap(owner, following, *kinds):
    return make_set(owner, "gap", 300, [(following, kinds + ("gap",))])


def fact_of(record_set, zone=ORG, edition=1):
    return ("set", zone, edition, record_set)


def answer(name, kind, *outcome):
    return ("answer", name, kind, outcome)


class FollowsTest(unittest.TestCase):
    def setUp(self):
        self.notary = Notary()
        self.signers = [self.notary.new_signer() for _ in range(3)]
        self.anchors = [((), 0), (ORG, 4)]
        self.time = 15

    def result(self, rule, fact, premises, facts=(), signed_set=None):
        facts, anchors = list(facts), list(self.anchors)
        found = follows(self.notary, anchors, self.time, facts, (rule, fact, premises, signed_set))
        self.assertIn(found, (True, False))
        self.assertEqual(anchors, self.anchors)
        return found

    def assert_follows(self, *arguments):
        with self.subTest(arguments=arguments):
            self.assertIs(self.result(*arguments), True)

    def assert_not(self, *arguments):
        with self.subTest(arguments=arguments):
            self.assertIs(self.result(*arguments), False)

    def by_one(self, rule, premise, fact):
        return self.result(rule, fact, (0,), [premise])

    def by_two(self, rule, first, second, fact):
        return self.result(rule, fact, (0, 1), [fact_of(first), fact_of(second)])


class FormTest(FollowsTest):
    """One step of each rule that follows, and changes of its form."""

    def steps(self):
        text = make_set(ORG, "text", 60, ["x"])
        signature = sign_set(self.signers[0], text, zone=ORG, edition=1, start=10, end=20)
        clearing = gap(ORG, ("org", "tree"), "text")
        data, alias, none, noname = ("data", 60, ("x",)), ("alias", 60, ()), ("nodata",), ("noname",)
        return [
            ("anchor", ("key", (), 0), [], None),
            ("signature", fact_of(text), [("key", ORG, 0)], (text, (signature,))),
            ("keys", ("key", ORG, 5), [fact_of(make_set(ORG, "key", 60, [5]))], None),
            ("link", ("key", TREE, 5), [fact_of(make_set(TREE, "link", 60, [5]))], None),
            ("data", answer(ORG, "text", *data), [fact_of(text)], None),
            ("alias", answer(NAME, "text", *alias), [fact_of(make_set(NAME, "alias", 60, [()]))], None),
            ("nokind", answer(ORG, "mail", *none), [fact_of(clearing)], None),
            ("empty", answer(("org", "y"), "mail", *none), [fact_of(gap(ORG, ("org", "y", "c")))], None),
            ("noname", answer(NAME, "mail", *noname), [fact_of(clearing)] * 2, None),
            ("wilddata", answer(NAME, "text", *data),
             [fact_of(clearing), fact_of(make_set(STAR, "text", 60, ["x"]))], None),
            ("wildalias", answer(NAME, "text", *alias),
             [fact_of(clearing), fact_of(make_set(STAR, "alias", 60, [()]))], None),
            ("wildnokind", answer(NAME, "mail", *none),
             [fact_of(clearing), fact_of(gap(STAR, ("org", "b")))], None),
            ("unlinked", ("unlinked", TREE), [fact_of(gap(TREE, ORG, "server"))], None),
        ]

    def test_each_rule_as_it_is(self):
        self.assertEqual([step[0] for step in self.steps()], list(RULES))
        for rule, fact, facts, signed_set in self.steps():
            self.assert_follows(rule, fact, tuple(range(len(facts))), facts, signed_set)

    def test_the_number_of_premises(self):
        for rule, fact, facts, signed_set in self.steps():
            many = len(facts)
            longer = facts + [facts[0] if facts else ("key", (), 0)]
            self.assert_not(rule, fact, tuple(range(many)) + (many,), longer, signed_set)
            self.assert_not(rule, fact, tuple(range(many)) + (0, 0), longer, signed_set)
            if many:
                self.assert_not(rule, fact, tuple(range(many - 1)), facts, signed_set)
                self.assert_not(rule, fact, (), facts, signed_set)

    def test_indexes(self):
        for rule, fact, facts, signed_set in self.steps():
            many = len(facts)
            for place in range(many):
                for wrong in (-1, -many, many, many + 1, 10 ** 9, -10 ** 9):
                    premises = list(range(many))
                    premises[place] = wrong
                    self.assert_not(rule, fact, tuple(premises), facts, signed_set)
            if many:
                self.assert_not(rule, fact, tuple(range(many)), [], signed_set)
                # Facts in front of the premises and behind them are allowed.
                extra = ("unlinked", ("x",))
                moved = tuple(index + 1 for index in range(many))
                self.assert_follows(rule, fact, moved, [extra] + facts + [extra], signed_set)
                self.assert_not(rule, fact, tuple(range(many)), [extra] + facts, signed_set)

    def test_signed_sets(self):
        text = make_set(ORG, "text", 60, ["x"])
        for rule, fact, facts, signed_set in self.steps():
            premises = tuple(range(len(facts)))
            if rule == "signature":
                self.assert_not(rule, fact, premises, facts, None)
            else:
                self.assert_not(rule, fact, premises, facts, (text, ()))

    def test_rules_of_other_names(self):
        for rule, fact, facts, signed_set in self.steps():
            premises = tuple(range(len(facts)))
            for other in ("", "gap", "key", "set", "answer", "nodata", "Data", "data ", "signatures"):
                self.assert_not(other, fact, premises, facts, signed_set)
                self.assert_not(other, fact, premises, facts, None)
            for other in RULES:
                if other != rule:
                    self.assert_not(other, fact, premises, facts, signed_set)

    def test_facts_of_other_forms(self):
        steps = self.steps()
        for rule, fact, facts, signed_set in steps:
            for other in steps:
                if other[1] != fact:
                    self.assert_not(rule, other[1], tuple(range(len(facts))), facts, signed_set)

    def test_premises_of_other_forms(self):
        others = [("key", ORG, 3), answer(ORG, "text", "nodata"), ("unlinked", ORG), ("unlinked", TREE)]
        for rule, fact, facts, signed_set in self.steps():
            for place in range(len(facts)):
                for other in others + [fact_of(make_set(ORG, "start", 1, [(1, 1)]))]:
                    changed = list(facts)
                    changed[place] = other
                    self.assert_not(rule, fact, tuple(range(len(facts))), changed, signed_set)

    def test_two_premises_of_another_zone_or_edition(self):
        for rule, fact, facts, _ in self.steps():
            if len(facts) == 2:
                first, second = facts
                for zone, edition in ((ORG, 2), ((), 1), (TREE, 1), (ORG, 0)):
                    changed = ("set", zone, edition)
                    self.assert_not(rule, fact, (0, 1), [first, changed + second[3:]])
                    self.assert_not(rule, fact, (0, 1), [changed + first[3:], second])
                # Both of another edition, or both of a zone above, where the name is below as well.
                for zone, edition in ((ORG, 9), ((), 1)):
                    changed = ("set", zone, edition)
                    self.assert_follows(rule, fact, (0, 1), [changed + first[3:], changed + second[3:]])

    def test_two_premises_in_the_other_order(self):
        for rule, fact, facts, _ in self.steps():
            if len(facts) == 2 and rule != "noname":
                self.assert_not(rule, fact, (1, 0), facts)
                self.assert_follows(rule, fact, (1, 0), facts[::-1])
                self.assert_not(rule, fact, (0, 0), facts)
                self.assert_not(rule, fact, (1, 1), facts)

    def test_two_premises_that_are_the_same_step(self):
        clearing = fact_of(gap(ORG, TREE))
        self.assert_follows("noname", answer(NAME, "mail", "noname"), (0, 0), [clearing])
        self.assert_follows("noname", answer(NAME, "mail", "noname"), (0, 1), [clearing, clearing])


class AnchorTest(FollowsTest):
    def test_anchors(self):
        for zone, key in self.anchors:
            self.assert_follows("anchor", ("key", zone, key), ())
        for zone, key in (((), 4), (ORG, 0), (TREE, 4), ((), 1), (("*",), 0)):
            self.assert_not("anchor", ("key", zone, key), ())
        self.assert_not("anchor", answer(ORG, "text", "nodata"), ())
        self.assert_not("anchor", ("unlinked", ()), ())
        self.anchors = []
        self.assert_not("anchor", ("key", (), 0), ())
        self.anchors = [(("*",), 7), (("*",), 8), ((), 1)]
        self.assert_follows("anchor", ("key", ("*",), 8), ())
        self.assert_follows("anchor", ("key", ("*",), 8), (), [("key", (), 1)])


class SignatureTest(FollowsTest):
    def setUp(self):
        FollowsTest.setUp(self)
        self.text = make_set(ORG, "text", 60, ["x"])

    def sign(self, record_set, signer=0, zone=ORG, edition=1, start=10, end=20):
        return sign_set(self.signers[signer], record_set, zone=zone, edition=edition, start=start, end=end)

    def by(self, *signatures, premise=("key", ORG, 0), fact=None, record_set=None):
        record_set = self.text if record_set is None else record_set
        fact = fact_of(record_set) if fact is None else fact
        return self.result("signature", fact, (0,), [premise], (record_set, signatures))

    def test_a_signature(self):
        self.assertTrue(self.by(self.sign(self.text)))
        self.assertFalse(self.by())

    def test_the_times(self):
        signature = self.sign(self.text)
        for time, expected in ((0, False), (9, False), (10, True), (20, True), (21, False), (999, False)):
            self.time = time
            self.assertEqual(self.by(signature), expected)

    def test_the_zone_the_key_and_the_edition(self):
        signature = self.sign(self.text)
        for premise in (("key", (), 0), ("key", TREE, 0), ("key", ORG, 1), ("key", ORG, 4)):
            self.assertFalse(self.by(signature, premise=premise))
            self.assertFalse(self.by(signature, premise=premise, fact=fact_of(self.text, premise[1])))
        for fact in (fact_of(self.text, ()), fact_of(self.text, TREE), fact_of(self.text, ORG, 2)):
            self.assertFalse(self.by(signature, fact=fact))
        self.assertFalse(self.by(self.sign(self.text, signer=1)))
        self.assertFalse(self.by(self.sign(self.text, zone=())))
        self.assertFalse(self.by(self.sign(self.text, edition=2)))
        above = self.sign(self.text, zone=())
        self.assertTrue(self.by(above, premise=("key", (), 0), fact=fact_of(self.text, ())))

    def test_a_signature_with_a_changed_part(self):
        signature = self.sign(self.text, zone=(), edition=2)
        self.sign(self.text, end=19)
        zone, key, edition, start, end, number = signature
        for forged in ((ORG, key, 1, start, end, number), (ORG, key, edition, start, end, number),
                       (zone, key, 1, start, end, number)):
            for premise in (("key", ORG, 0), ("key", (), 0)):
                fact = fact_of(self.text, premise[1], forged[2])
                self.assertFalse(self.by(forged, premise=premise, fact=fact))
        good = self.sign(self.text)
        for place, value in ((1, 1), (2, 2), (3, 11), (4, 21), (5, good[5] - 1), (5, good[5] + 1)):
            forged = good[:place] + (value,) + good[place + 1:]
            premise = ("key", ORG, forged[1])
            self.assertFalse(self.by(forged, premise=premise, fact=fact_of(self.text, ORG, forged[2])))

    def test_owners_outside_of_the_zone(self):
        for owner, expected in ((ORG, True), (TREE, True), (STAR, True), ((), False), (("com",), False),
                                (("orgg",), False), (("or",), False)):
            record_set = make_set(owner, "text", 60, ["x"])
            self.assertEqual(self.by(self.sign(record_set), record_set=record_set), expected)
        # A signature may name any zone, also a wildcard.
        record_set = make_set(STAR, "text", 60, ["x"])
        fact = fact_of(record_set, STAR)
        signature = self.sign(record_set, zone=STAR)
        self.assertTrue(self.by(signature, premise=("key", STAR, 0), fact=fact, record_set=record_set))

    def test_several_signatures_of_which_one_fits(self):
        good = self.sign(self.text)
        wrong = [self.sign(self.text, signer=1), self.sign(self.text, zone=()), self.sign(self.text, edition=2),
                 self.sign(self.text, start=16), self.sign(self.text, end=14),
                 self.sign(make_set(ORG, "text", 60, ["y"]))]
        self.assertFalse(self.by(*wrong))
        self.assertTrue(self.by(good, *wrong))
        self.assertTrue(self.by(*wrong, good))
        self.assertTrue(self.by(*wrong[:3], good, *wrong[3:]))

    def test_another_record_set(self):
        other = make_set(ORG, "text", 60, ["y"])
        good = self.sign(self.text)
        self.assertFalse(self.by(good, fact=fact_of(other)))
        self.assertFalse(self.by(good, record_set=other))
        # The signature is valid for the record set of the fact, but does not stand beside it.
        self.assertFalse(self.by(good, record_set=other, fact=fact_of(self.text)))
        self.assertFalse(self.by(good, record_set=make_set(ORG, "text", 61, ["x"])))
        self.assertFalse(self.by(good, record_set=make_set(TREE, "text", 60, ["x"])))

    def test_later_changes_of_the_notary_count(self):
        signature = (ORG, 0, 1, 10, 20, 0)
        self.assertFalse(self.by(signature))
        self.assertEqual(self.sign(self.text), signature)
        self.assertTrue(self.by(signature))


class KeyTest(FollowsTest):
    def test_keys(self):
        record_set = make_set(ORG, "key", 60, [5, 3, 9])
        for key, expected in ((3, True), (5, True), (9, True), (4, False), (0, False), (10, False)):
            self.assertEqual(self.by_one("keys", fact_of(record_set), ("key", ORG, key)), expected)
        self.assertFalse(self.by_one("keys", fact_of(record_set), ("key", (), 3)))
        self.assertFalse(self.by_one("keys", fact_of(record_set), ("key", TREE, 3)))
        self.assertFalse(self.by_one("keys", fact_of(record_set, ()), ("key", ORG, 3)))
        self.assertFalse(self.by_one("keys", fact_of(record_set, ()), ("key", (), 3)))
        self.assertFalse(self.by_one("keys", fact_of(make_set(TREE, "key", 1, [3])), ("key", TREE, 3)))
        self.assertFalse(self.by_one("keys", fact_of(make_set(TREE, "key", 1, [3])), ("key", ORG, 3)))
        for kind in ("link", "address"):
            self.assertFalse(self.by_one("keys", fact_of(make_set(ORG, kind, 1, [3])), ("key", ORG, 3)))
        self.assertTrue(self.by_one("keys", fact_of(record_set, ORG, 8), ("key", ORG, 3)))

    def test_link(self):
        record_set = make_set(TREE, "link", 60, [5, 3, 9])
        for key, expected in ((3, True), (5, True), (9, True), (4, False), (0, False), (10, False)):
            self.assertEqual(self.by_one("link", fact_of(record_set), ("key", TREE, key)), expected)
            self.assertEqual(self.by_one("link", fact_of(record_set, ()), ("key", TREE, key)), expected)
        self.assertFalse(self.by_one("link", fact_of(record_set), ("key", ORG, 3)))
        self.assertFalse(self.by_one("link", fact_of(record_set), ("key", (), 3)))
        # The owner lies below the zone, so the zone cannot name its own keys by a link.
        self.assertFalse(self.by_one("link", fact_of(record_set, TREE), ("key", TREE, 3)))
        self.assertFalse(self.by_one("link", fact_of(record_set, ("com",)), ("key", TREE, 3)))
        self.assertFalse(self.by_one("link", fact_of(record_set, TREE + ("a",)), ("key", TREE, 3)))
        for kind in ("key", "address"):
            self.assertFalse(self.by_one("link", fact_of(make_set(TREE, kind, 1, [3])), ("key", TREE, 3)))

    def test_unlinked(self):
        for kinds, expected in ((("server",), True), (("text", "server"), True), (("server", "link"), False),
                                (("link",), False), ((), False), (("text", "key"), False)):
            for zone in (ORG, ()):
                premise = fact_of(gap(TREE, ORG, *kinds), zone)
                self.assertEqual(self.by_one("unlinked", premise, ("unlinked", TREE)), expected)
                self.assertFalse(self.by_one("unlinked", premise, ("unlinked", ORG)))
        for zone in (TREE, ("com",), TREE + ("a",)):
            premise = fact_of(gap(TREE, ORG, "server"), zone)
            self.assertFalse(self.by_one("unlinked", premise, ("unlinked", TREE)))
        server_set = make_set(TREE, "server", 1, [()])
        self.assertFalse(self.by_one("unlinked", fact_of(server_set), ("unlinked", TREE)))


class OneTest(FollowsTest):
    """The rules with one premise that give an answer."""

    def test_data(self):
        values = {"address": [2, 1], "text": ["x"], "mail": [(1, ())], "alias": [ORG], "server": [ORG],
                  "start": [(1, 2)], "key": [3], "link": [4]}
        for kind in ASKED:
            record_set = make_set(TREE, kind, 60, values[kind])
            fact = answer(TREE, kind, "data", 60, record_set[3])
            self.assertTrue(self.by_one("data", fact_of(record_set), fact))
            self.assertTrue(self.by_one("data", fact_of(record_set, ()), fact))
            for wrong in (answer(ORG, kind, *fact[3]), answer(NAME, kind, *fact[3]),
                          answer(TREE, "gap", *fact[3]), answer(TREE, kind, "data", 61, fact[3][2]),
                          answer(TREE, kind, "data", 60, (7,)), answer(TREE, kind, "data", 60, fact[3][2] * 2),
                          answer(TREE, kind, "alias", 60, ORG), answer(TREE, kind, "nodata"),
                          answer(TREE, kind, "noname")):
                self.assertFalse(self.by_one("data", fact_of(record_set), wrong))
            for other in ASKED:
                if other != kind:
                    self.assertFalse(self.by_one("data", fact_of(record_set), answer(TREE, other, *fact[3])))

    def test_data_of_the_kinds_gap_and_link(self):
        record_set = gap(TREE, ORG, "text")
        fact = answer(TREE, "gap", "data", 300, record_set[3])
        self.assertFalse(self.by_one("data", fact_of(record_set), fact))
        record_set = make_set(TREE, "link", 60, [5])
        fact = answer(TREE, "link", "data", 60, (5,))
        self.assertTrue(self.by_one("data", fact_of(record_set, ORG), fact))
        self.assertTrue(self.by_one("data", fact_of(record_set, ()), fact))
        self.assertFalse(self.by_one("data", fact_of(record_set, TREE), fact))

    def test_data_and_alias_of_an_alias_set(self):
        record_set = make_set(NAME, "alias", 60, [TREE])
        premise = fact_of(record_set)
        self.assertTrue(self.by_one("data", premise, answer(NAME, "alias", "data", 60, (TREE,))))
        self.assertFalse(self.by_one("alias", premise, answer(NAME, "alias", "alias", 60, TREE)))
        self.assertFalse(self.by_one("alias", premise, answer(NAME, "alias", "data", 60, (TREE,))))
        self.assertFalse(self.by_one("data", premise, answer(NAME, "text", "data", 60, (TREE,))))
        self.assertFalse(self.by_one("data", premise, answer(NAME, "text", "alias", 60, TREE)))

    def test_alias(self):
        premise = fact_of(make_set(NAME, "alias", 60, [TREE]))
        for kind in ASKED:
            fact = answer(NAME, kind, "alias", 60, TREE)
            self.assertEqual(self.by_one("alias", premise, fact), kind != "alias")
        self.assertFalse(self.by_one("alias", premise, answer(NAME, "gap", "alias", 60, TREE)))
        for wrong in (answer(TREE, "text", "alias", 60, TREE), answer(NAME, "text", "alias", 61, TREE),
                      answer(NAME, "text", "alias", 60, ORG), answer(NAME, "text", "data", 60, (TREE,)),
                      answer(NAME, "text", "nodata"), answer(NAME + ("a",), "text", "alias", 60, TREE)):
            self.assertFalse(self.by_one("alias", premise, wrong))
        server_set = fact_of(make_set(NAME, "server", 60, [TREE]))
        self.assertFalse(self.by_one("alias", server_set, answer(NAME, "text", "alias", 60, TREE)))
        at_the_zone = fact_of(make_set(NAME, "alias", 60, [TREE]), NAME)
        self.assertFalse(self.by_one("alias", at_the_zone, answer(NAME, "link", "alias", 60, TREE)))
        self.assertTrue(self.by_one("alias", at_the_zone, answer(NAME, "text", "alias", 60, TREE)))

    def nokind(self, gap_set, name, kind, zone=ORG):
        return self.by_one("nokind", fact_of(gap_set, zone), answer(name, kind, "nodata"))

    def test_nokind(self):
        gap_set = gap(TREE, ORG, "text", "mail")
        for kind in ASKED:
            self.assertEqual(self.nokind(gap_set, TREE, kind), kind not in ("text", "mail"))
        self.assertFalse(self.nokind(gap_set, TREE, "gap"))
        self.assertFalse(self.nokind(make_set(TREE, "gap", 1, [(ORG, ())]), TREE, "gap"))
        for name in (ORG, NAME, TREE + ("a",), STAR):
            self.assertFalse(self.nokind(gap_set, name, "address"))
        premise = fact_of(gap_set)
        for outcome in (("noname",), ("data", 300, gap_set[3]), ("alias", 300, ORG)):
            self.assertFalse(self.by_one("nokind", premise, answer(TREE, "address", *outcome)))
        text_set = make_set(TREE, "text", 60, ["x"])
        self.assertFalse(self.nokind(text_set, TREE, "address"))

    def test_nokind_with_an_alias(self):
        for kind in ASKED:
            self.assertFalse(self.nokind(gap(NAME, ORG, "alias"), NAME, kind))
            self.assertFalse(self.nokind(gap(NAME, ORG, "text", "alias"), NAME, kind))

    def test_nokind_at_a_cut(self):
        for kind in ASKED:
            self.assertEqual(self.nokind(gap(TREE, ORG, "server"), TREE, kind), kind == "link")
            self.assertFalse(self.nokind(gap(TREE, ORG, "server", "link"), TREE, kind))
            # The owner is the zone: it has servers, but is no cut, and its links are not told there.
            at_the_zone = self.nokind(gap(TREE, TREE, "server"), TREE, kind, TREE)
            self.assertEqual(at_the_zone, kind not in ("server", "link"))
            self.assertEqual(self.nokind(gap(TREE, TREE, "link"), TREE, kind), kind != "link")
        self.assertFalse(self.nokind(gap(TREE, ORG, "server"), TREE, "gap"))

    def test_nokind_for_the_kind_link(self):
        self.assertFalse(self.nokind(gap(ORG, TREE, "text"), ORG, "link"))
        self.assertTrue(self.nokind(gap(ORG, TREE, "text"), ORG, "link", ()))
        self.assertTrue(self.nokind(gap(ORG, TREE, "text"), ORG, "mail"))

    def empty(self, gap_set, name, kind="text", zone=ORG, outcome=("nodata",)):
        return self.by_one("empty", fact_of(gap_set, zone), answer(name, kind, *outcome))

    def test_empty(self):
        gap_set = gap(("org", "b"), ("org", "m", "n", "o"), "text")
        for kind in ASKED:
            self.assertTrue(self.empty(gap_set, NAME, kind))
            self.assertTrue(self.empty(gap_set, ("org", "m", "n"), kind))
        self.assertFalse(self.empty(gap_set, NAME, "gap"))
        for name in (ORG, ("org", "b"), ("org", "c"), ("org", "m", "a"), ("org", "m", "n", "o"),
                     ("org", "m", "n", "o", "p"), ("org", "n"), ("org", "m", "*"), ("org", "m", "n", "*")):
            self.assertFalse(self.empty(gap_set, name))
        for outcome in (("noname",), ("data", 300, gap_set[3]), ("alias", 300, ())):
            self.assertFalse(self.empty(gap_set, NAME, outcome=outcome))
        self.assertTrue(self.empty(gap_set, NAME, zone=()))
        self.assertFalse(self.empty(gap_set, NAME, zone=NAME))
        self.assertFalse(self.empty(gap_set, NAME, zone=("com",)))
        self.assertFalse(self.empty(make_set(("org", "b"), "alias", 1, [NAME + ("a",)]), NAME))

    def test_empty_above_the_first_owner(self):
        # The root would have an owner below it, but the name does not lie below the zone.
        self.assertFalse(self.empty(gap(ORG, TREE), ORG))
        self.assertFalse(self.empty(gap(ORG, TREE), ()))
        self.assertTrue(self.empty(gap((), TREE), ORG, zone=()))
        self.assertTrue(self.empty(gap((), TREE), ORG, "link", zone=()))
        self.assertFalse(self.empty(gap((), TREE), ORG, "link"))
        # Below a cut nothing is covered.
        cut = gap(("org", "b"), ("org", "b", "m", "n"), "server")
        self.assertFalse(self.empty(cut, ("org", "b", "m")))
        self.assertTrue(self.empty(cut, ("org", "b", "m"), zone=("org", "b")))


class TwoTest(FollowsTest):
    """The rules with two premises."""

    def test_noname(self):
        over_name, over_source = gap(("org", "b"), ("org", "p")), gap(ORG, ("org", "b"))
        for kind in ASKED:
            fact = answer(NAME, kind, "noname")
            self.assertTrue(self.by_two("noname", over_name, over_source, fact))
            self.assertFalse(self.by_two("noname", over_source, over_name, fact))
            self.assertFalse(self.by_two("noname", over_name, over_name, fact))
            self.assertFalse(self.by_two("noname", over_source, over_source, fact))
        self.assertFalse(self.by_two("noname", over_name, over_source, answer(NAME, "gap", "noname")))
        for outcome in (("nodata",), ("data", 300, over_name[3]), ("alias", 300, ())):
            self.assertFalse(self.by_two("noname", over_name, over_source, answer(NAME, "text", *outcome)))
        for name in (("org", "a"), ("org", "b"), ("org", "p"), ("org", "q"), ORG, ("com",)):
            self.assertFalse(self.by_two("noname", over_name, over_source, answer(name, "text", "noname")))
        self.assertTrue(self.by_two("noname", over_name, over_source, answer(("org", "c", "d"), "text", "noname")))
        # Below the owner of the gap set the source is its star, which it covers itself.
        below = answer(("org", "b", "c"), "text", "noname")
        self.assertTrue(self.by_two("noname", over_name, over_name, below))
        self.assertFalse(self.by_two("noname", over_name, over_source, below))

    def test_noname_with_a_first_one_that_covers_but_does_not_clear(self):
        first, second = gap(ORG, ("org", "m", "n")), gap(ORG, ("org", "m", "n"))
        fact = answer(NAME, "text", "noname")
        self.assertFalse(self.by_two("noname", first, second, fact))
        self.assertTrue(self.by_two("noname", first, second, answer(("org", "l"), "text", "noname")))

    def test_noname_where_the_source_is_an_owner(self):
        over_name = gap(("org", "b"), ("org", "p"))
        fact = answer(NAME, "text", "noname")
        for second in (gap(ORG, STAR), gap(STAR, ("org", "b")), gap(("org", "a"), ("org", "b"))):
            self.assertFalse(self.by_two("noname", over_name, second, fact))
        self.assertFalse(self.by_two("noname", over_name, make_set(STAR, "text", 1, ["x"]), fact))
        self.assertFalse(self.by_two("noname", make_set(ORG, "text", 1, ["x"]), gap(ORG, ("org", "b")), fact))

    def test_wilddata(self):
        clearing = gap(("org", "b"), ("org", "p"))
        values = {"address": [2, 1], "text": ["x"], "mail": [(1, ())], "alias": [ORG], "server": [ORG],
                  "start": [(1, 2)], "key": [3], "link": [4]}
        for kind in ASKED:
            second = make_set(STAR, kind, 60, values[kind])
            fact = answer(NAME, kind, "data", 60, second[3])
            self.assertTrue(self.by_two("wilddata", clearing, second, fact))
            for wrong in (answer(TREE, kind, *fact[3]), answer(STAR, kind, *fact[3]),
                          answer(NAME, "gap", *fact[3]), answer(NAME, kind, "data", 61, second[3]),
                          answer(NAME, kind, "data", 60, (7,)), answer(NAME, kind, "nodata"),
                          answer(NAME, kind, "noname"), answer(("org", "b"), kind, *fact[3])):
                self.assertFalse(self.by_two("wilddata", clearing, second, wrong))
            for other in ASKED:
                if other != kind:
                    self.assertFalse(self.by_two("wilddata", clearing, second, answer(NAME, other, *fact[3])))
        second = gap(STAR, ("org", "b"), "text")
        self.assertFalse(self.by_two("wilddata", clearing, second, answer(NAME, "gap", "data", 300, second[3])))

    def test_a_source_of_another_name(self):
        clearing = gap(("org", "b"), ("org", "p"))
        for owner in (("*",), ("org", "m", "*"), ("org", "b", "*"), NAME, ORG, ("com", "*")):
            data = make_set(owner, "text", 60, ["x"])
            self.assertFalse(self.by_two("wilddata", clearing, data, answer(NAME, "text", "data", 60, ("x",))))
            alias = make_set(owner, "alias", 60, [()])
            self.assertFalse(self.by_two("wildalias", clearing, alias, answer(NAME, "text", "alias", 60, ())))
            self.assertFalse(self.by_two("wildnokind", clearing, gap(owner, ORG), answer(NAME, "text", "nodata")))
        # The longest of the names that are shared counts, here that with next.
        deeper = gap(("org", "b"), ("org", "m", "p"))
        name = ("org", "m", "a")
        fact = answer(name, "text", "data", 60, ("x",))
        self.assertTrue(self.by_two("wilddata", deeper, make_set(("org", "m", "*"), "text", 60, ["x"]), fact))
        self.assertFalse(self.by_two("wilddata", deeper, make_set(STAR, "text", 60, ["x"]), fact))

    def test_a_first_one_that_does_not_clear(self):
        data, alias, none = ("data", 60, ("x",)), ("alias", 60, ()), ("nodata",)
        seconds = {"wilddata": (make_set(STAR, "text", 60, ["x"]), data),
                   "wildalias": (make_set(STAR, "alias", 60, [()]), alias),
                   "wildnokind": (gap(STAR, ORG, "mail"), none)}
        for rule, (second, outcome) in seconds.items():
            fact = answer(NAME, "text", *outcome)
            for first, expected in (
                (gap(ORG, ORG), True), (gap(STAR, ("org", "p")), True), (gap(("org", "l"), ("org", "n")), True),
                # It covers the name, but its next lies below it.
                (gap(ORG, ("org", "m", "n")), False), (gap(("org", "l"), ("org", "m", "n")), False),
                # It does not cover it.
                (gap(NAME, ORG), False), (gap(ORG, NAME), False), (gap(ORG, ("org", "l")), False),
                (gap(("org", "n"), ORG), False), (make_set(ORG, "text", 60, ["x"]), False),
                (make_set(STAR, "alias", 60, [()]), False),
            ):
                with self.subTest(rule=rule, first=first):
                    self.assertEqual(self.by_two(rule, first, second, fact), expected)

    def test_wildalias(self):
        clearing, second = gap(("org", "b"), ("org", "p")), make_set(STAR, "alias", 60, [TREE])
        for kind in ASKED:
            fact = answer(NAME, kind, "alias", 60, TREE)
            self.assertEqual(self.by_two("wildalias", clearing, second, fact), kind != "alias")
        for wrong in (answer(NAME, "gap", "alias", 60, TREE), answer(NAME, "text", "alias", 61, TREE),
                      answer(NAME, "text", "alias", 60, ORG), answer(NAME, "text", "data", 60, (TREE,)),
                      answer(STAR, "text", "alias", 60, TREE), answer(("org", "q"), "text", "alias", 60, TREE)):
            self.assertFalse(self.by_two("wildalias", clearing, second, wrong))
        fact = answer(NAME, "alias", "data", 60, (TREE,))
        self.assertTrue(self.by_two("wilddata", clearing, second, fact))
        self.assertFalse(self.by_two("wildalias", clearing, second, fact))
        server_set = make_set(STAR, "server", 60, [TREE])
        self.assertFalse(self.by_two("wildalias", clearing, server_set, answer(NAME, "text", "alias", 60, TREE)))

    def test_wildnokind(self):
        clearing = gap(("org", "b"), ("org", "p"))
        for kinds in ((), ("mail",), ("text", "mail"), ("server",), ("server", "link"), ("alias",)):
            second = gap(STAR, ("org", "b"), *kinds)
            for kind in ASKED:
                expected = kind not in kinds and "alias" not in kinds
                fact = answer(NAME, kind, "nodata")
                self.assertEqual(self.by_two("wildnokind", clearing, second, fact), expected)
        second = gap(STAR, ("org", "b"), "mail")
        for wrong in (answer(NAME, "gap", "nodata"), answer(NAME, "text", "noname"),
                      answer(STAR, "text", "nodata"), answer(("org", "q"), "text", "nodata")):
            self.assertFalse(self.by_two("wildnokind", clearing, second, wrong))
        no_gap = make_set(STAR, "mail", 60, [(1, ())])
        self.assertFalse(self.by_two("wildnokind", clearing, no_gap, answer(NAME, "text", "nodata")))

    def test_an_encloser_without_a_star(self):
        # No source, so nothing covers it and nothing is owned by it.
        name = TWELVE + ("m",)
        zone = ()
        first = fact_of(gap(TWELVE, ()), zone)
        for rule, second, outcome in (
            ("noname", gap(TWELVE, ()), ("noname",)),
            ("wilddata", (TWELVE + ("*",), "text", 60, ("x",)), ("data", 60, ("x",))),
            ("wildalias", (TWELVE + ("*",), "alias", 60, ((),)), ("alias", 60, ())),
            ("wildnokind", (TWELVE + ("*",), "gap", 60, (((), ()),)), ("nodata",)),
        ):
            fact = answer(name, "text", *outcome)
            self.assert_not(rule, fact, (0, 1), [first, fact_of(second, zone)])


class LinkAtTheZoneTest(FollowsTest):
    def test_no_rule_answers_for_the_kind_link_at_the_zone(self):
        sets = [make_set(ORG, "link", 60, [5]), make_set(ORG, "alias", 60, [()]), gap(ORG, TREE, "server"),
                gap(ORG, TREE), gap((), TREE), make_set(("*",), "link", 60, [5]), gap(("*",), ("z",))]
        outcomes = [("data", 60, (5,)), ("alias", 60, ()), ("nodata",), ("noname",)]
        for rule in RULES:
            for outcome in outcomes:
                fact = answer(ORG, "link", *outcome)
                for first in sets:
                    self.assertFalse(self.by_one(rule, fact_of(first), fact))
                    for second in sets:
                        self.assertFalse(self.by_two(rule, first, second, fact))
        self.assertTrue(self.by_one("data", fact_of(sets[0], ()), answer(ORG, "link", *outcomes[0])))
        self.assertTrue(self.by_one("alias", fact_of(sets[1], ()), answer(ORG, "link", *outcomes[1])))
        self.assertTrue(self.by_one("nokind", fact_of(sets[2], ()), answer(ORG, "link", *outcomes[2])))
        self.assertTrue(self.by_one("empty", fact_of(sets[4], ()), answer(ORG, "link", *outcomes[2])))


if __name__ == "__main__":
    unittest.main()
