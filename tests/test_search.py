import random
import unittest

from provenames.check import check
from provenames.edition import publish
from provenames.notary import Notary
from provenames.records import KINDS, make_set
from provenames.search import answers, unlinked
from provenames.signatures import sign_set
from tests import derive
from tests.zones import mixed_zone

ORG, TREE, BUSH, NAME = ("org",), ("org", "tree"), ("org", "bush"), ("org", "m")
STAR = ("org", "*")
LAST = 4294967295
ASKED = tuple(kind for kind in KINDS if kind != "gap")
VALUES = {"address": [7], "text": ["x"], "mail": [(1, ())], "alias": [("z",)], "server": [("z",)],
          "start": [(1, 2)], "key": [3], "link": [5]}


def gap(owner, following, *kinds):
    return make_set(owner, "gap", 300, [(following, kinds + ("gap",))])


class SearchTest(unittest.TestCase):
    def setUp(self):
        self.notary = Notary()
        self.signers = [self.notary.new_signer() for _ in range(6)]
        self.anchors = [(ORG, 0)]
        self.time = 15

    def sign(self, record_set, *, signer=0, zone=ORG, edition=1, start=10, end=20):
        """The record set with one signature; the first signer is trusted for ORG."""
        signature = sign_set(
            self.signers[signer], record_set, zone=zone, edition=edition, start=start, end=end)
        return (record_set, (signature,))

    def sign_all(self, *record_sets, **changes):
        return [self.sign(record_set, **changes) for record_set in record_sets]

    def check_derivation(self, steps, fact, signed_sets):
        self.assertIs(type(steps), list)
        self.assertEqual(steps[-1][1], fact)
        self.assertTrue(check(self.notary, self.anchors, self.time, steps))
        for step in steps:
            self.assertEqual((type(step), type(step[2])), (tuple, tuple))
            self.assertTrue(step[3] is None or step[3] in signed_sets)

    def outcomes(self, signed_sets, name, kind):
        """The outcomes of the answers, after all that holds of each list of answers was checked."""
        signed_sets, anchors = list(signed_sets), list(self.anchors)
        before = list(signed_sets)
        found = answers(self.notary, anchors, self.time, signed_sets, name, kind)
        self.assertIs(type(found), list)
        self.assertEqual((signed_sets, anchors), (before, self.anchors))
        for outcome, steps in found:
            self.check_derivation(steps, ("answer", name, kind, outcome), signed_sets)
        outcomes = [outcome for outcome, _ in found]
        for other in (signed_sets[::-1], signed_sets * 2):
            again = answers(self.notary, anchors, self.time, other, name, kind)
            self.assertEqual([outcome for outcome, _ in again], outcomes)
        return outcomes

    def cuts(self, signed_sets):
        before = list(signed_sets)
        found = unlinked(self.notary, self.anchors, self.time, signed_sets)
        self.assertIs(type(found), list)
        self.assertEqual(signed_sets, before)
        for cut, steps in found:
            self.check_derivation(steps, ("unlinked", cut), signed_sets)
        cuts = [cut for cut, _ in found]
        for other in (signed_sets[::-1], signed_sets * 2):
            again = unlinked(self.notary, self.anchors, self.time, other)
            self.assertEqual([cut for cut, _ in again], cuts)
        return cuts


class AnswersTest(SearchTest):
    def test_no_signed_sets_and_no_anchors(self):
        signed_sets = self.sign_all(make_set(ORG, "text", 60, ["x"]))
        self.assertEqual(self.outcomes([], ORG, "text"), [])
        self.assertEqual(self.outcomes(signed_sets, ORG, "text"), [("data", 60, ("x",))])
        self.assertEqual(self.outcomes(signed_sets, ORG, "mail"), [])
        self.assertEqual(self.outcomes(signed_sets, (), "text"), [])
        self.anchors = []
        self.assertEqual(self.outcomes([], ORG, "text"), [])
        self.assertEqual(self.outcomes(signed_sets, ORG, "text"), [])

    def test_data_of_each_kind(self):
        for kind in ASKED:
            record_set = make_set(NAME, kind, 60, VALUES[kind])
            signed_sets = self.sign_all(record_set)
            for asked in ASKED:
                expected = [("data", 60, record_set[3])] if asked == kind else []
                if kind == "alias" and asked != "alias":
                    expected = [("alias", 60, ("z",))]
                self.assertEqual(self.outcomes(signed_sets, NAME, asked), expected)
                self.assertEqual(self.outcomes(signed_sets, NAME + ("a",), asked), [])

    def test_the_kind_alias(self):
        signed_sets = self.sign_all(make_set(NAME, "alias", 60, [TREE]))
        self.assertEqual(self.outcomes(signed_sets, NAME, "alias"), [("data", 60, (TREE,))])
        signed_sets = self.sign_all(make_set(STAR, "alias", 60, [TREE]), gap(ORG, ORG))
        self.assertEqual(self.outcomes(signed_sets, NAME, "alias"), [("data", 60, (TREE,)), ("noname",)])
        self.assertEqual(self.outcomes(signed_sets, NAME, "text"), [("alias", 60, TREE), ("noname",)])

    def test_gap_sets(self):
        signed_sets = self.sign_all(gap(ORG, ("org", "k", "l"), "text"))
        for name, kind, expected in (
            (ORG, "mail", [("nodata",)]), (ORG, "text", []), (ORG, "alias", [("nodata",)]),
            (("org", "k"), "text", [("nodata",)]), (("org", "k"), "link", [("nodata",)]),
            (("org", "a"), "text", [("noname",)]), (("org", "a", "b"), "link", [("noname",)]),
            (("org", "k", "a"), "text", [("noname",)]), (("org", "k", "l"), "text", []),
            (("org", "k", "l", "m"), "text", []), (("org", "m"), "text", []), ((), "text", []),
            (("com",), "text", []), (STAR, "text", [("noname",)]),
        ):
            with self.subTest(name=name, kind=kind):
                self.assertEqual(self.outcomes(signed_sets, name, kind), expected)

    def test_an_owner_that_owns_nothing_else(self):
        signed_sets = self.sign_all(gap(NAME, ORG, "text"), gap(ORG, NAME))
        self.assertEqual(self.outcomes(signed_sets, NAME, "mail"), [("nodata",)])
        self.assertEqual(self.outcomes(signed_sets, NAME, "text"), [])
        self.assertEqual(self.outcomes(signed_sets, NAME, "link"), [("nodata",)])
        self.assertEqual(self.outcomes(self.sign_all(gap(NAME, ORG, "alias")), NAME, "text"), [])

    def test_cuts(self):
        signed_sets = self.sign_all(gap(TREE, ORG, "server"), gap(ORG, TREE, "text"))
        self.assertEqual(self.outcomes(signed_sets, TREE, "link"), [("nodata",)])
        self.assertEqual(self.outcomes(signed_sets, TREE, "text"), [])
        self.assertEqual(self.outcomes(signed_sets, TREE + ("a",), "text"), [])
        self.assertEqual(self.outcomes(signed_sets, TREE + ("a",), "link"), [])
        self.assertEqual(self.outcomes(signed_sets, ("org", "u"), "text"), [("noname",)])
        self.assertEqual(self.outcomes(signed_sets, ("org", "a"), "text"), [("noname",)])

    def test_noname_by_two_gap_sets(self):
        over_name, over_source = self.sign_all(gap(("org", "b"), ("org", "p")), gap(ORG, ("org", "b")))
        self.assertEqual(self.outcomes([over_name], NAME, "text"), [])
        self.assertEqual(self.outcomes([over_source], NAME, "text"), [])
        self.assertEqual(self.outcomes([over_name, over_source], NAME, "text"), [("noname",)])
        self.assertEqual(self.outcomes([over_name], ("org", "b", "a"), "text"), [("noname",)])
        # Of another zone or edition they do not go together.
        for changes in ({"edition": 2}, {"zone": (), "signer": 1}):
            self.anchors = [(ORG, 0), ((), 1)]
            other = self.sign(over_source[0], **changes)
            self.assertEqual(self.outcomes([over_name, other], NAME, "text"), [])
            self.assertEqual(self.outcomes([over_name, other, over_source], NAME, "text"), [("noname",)])

    def test_wildcards(self):
        clearing = self.sign(gap(("org", "b"), ("org", "p")))
        for record_set, kind, expected in (
            (make_set(STAR, "text", 60, ["x"]), "text", [("data", 60, ("x",))]),
            (make_set(STAR, "text", 60, ["x"]), "mail", []),
            (make_set(STAR, "alias", 60, [()]), "mail", [("alias", 60, ())]),
            (gap(STAR, ("org", "b"), "text"), "mail", [("nodata",)]),
            (gap(STAR, ("org", "b"), "text"), "text", []),
            (gap(STAR, ("org", "b"), "alias"), "mail", []),
            (make_set(("*",), "text", 60, ["x"]), "text", []),
        ):
            with self.subTest(record_set=record_set, kind=kind):
                second = self.sign(record_set)
                self.assertEqual(self.outcomes([clearing, second], NAME, kind), expected)
                self.assertEqual(self.outcomes([second], NAME, kind), [])
                self.assertEqual(self.outcomes([clearing, second], ("org", "q"), kind), [])
                other = self.sign(record_set, edition=2)
                self.assertEqual(self.outcomes([clearing, other], NAME, kind), [])

    def test_at_the_wildcard_itself(self):
        signed_sets = self.sign_all(make_set(STAR, "text", 60, ["x"]), gap(STAR, ORG, "text"), gap(ORG, STAR))
        self.assertEqual(self.outcomes(signed_sets, STAR, "text"), [("data", 60, ("x",))])
        self.assertEqual(self.outcomes(signed_sets, STAR, "mail"), [("nodata",)])
        for name in (NAME, ("org", "m", "n"), ("org", "m", "*")):
            self.assertEqual(self.outcomes(signed_sets, name, "text"), [("data", 60, ("x",))])
            self.assertEqual(self.outcomes(signed_sets, name, "mail"), [("nodata",)])

    def test_the_kind_link_for_the_apex(self):
        record_sets = [make_set(ORG, "link", 60, [4]), gap(ORG, TREE), make_set(ORG, "alias", 61, [()])]
        self.assertEqual(self.outcomes(self.sign_all(*record_sets), ORG, "link"), [])
        self.anchors = [((), 0)]
        above = self.sign_all(*record_sets, zone=())
        expected = [("data", 60, (4,)), ("alias", 61, ()), ("nodata",)]
        self.assertEqual(self.outcomes(above, ORG, "link"), expected)
        self.anchors = [((), 0), (ORG, 0)]
        self.assertEqual(self.outcomes(above + self.sign_all(*record_sets), ORG, "link"), expected)

    def test_names_beyond_the_limit_of_labels(self):
        name = ("org",) + tuple("abcdefghijkl")
        signed_sets = self.sign_all(gap(name[:-1], ORG), gap(ORG, name[:-1]))
        self.assertEqual(self.outcomes(signed_sets, name, "text"), [])


class SignatureTest(SearchTest):
    def test_signatures_that_are_not_valid(self):
        record_set = make_set(ORG, "text", 60, ["x"])
        good, other = self.sign(record_set), self.sign(make_set(ORG, "text", 60, ["y"]))
        data = [("data", 60, ("x",))]
        zone, key, edition, start, end, number = good[1][0]
        for signatures in ((), other[1], ((zone, key, edition, start, end, number + 1),),
                           ((zone, key, edition, start, LAST, number),), ((zone, 1, edition, start, end, number),),
                           ((zone, key, 2, start, end, number),), (((), key, edition, start, end, number),)):
            self.assertEqual(self.outcomes([(record_set, signatures)], ORG, "text"), [])
            self.assertEqual(self.outcomes([(record_set, signatures + good[1])], ORG, "text"), data)
            self.assertEqual(self.outcomes([(record_set, good[1] + signatures)], ORG, "text"), data)

    def test_the_time(self):
        signed_sets = self.sign_all(make_set(ORG, "text", 60, ["x"]))
        for time, expected in ((9, 0), (10, 1), (20, 1), (21, 0)):
            self.time = time
            self.assertEqual(len(self.outcomes(signed_sets, ORG, "text")), expected)

    def test_owners_outside_of_the_zone(self):
        for owner in ((), ("com",), ("orgg",)):
            signed_sets = self.sign_all(make_set(owner, "text", 60, ["x"]))
            self.assertEqual(self.outcomes(signed_sets, owner, "text"), [])

    def test_zones_whose_signatures_name_another_zone(self):
        record_set = make_set(TREE, "text", 60, ["x"])
        for zone in ((), TREE, ("com",), ("org", "*")):
            self.assertEqual(self.outcomes([self.sign(record_set, zone=zone)], TREE, "text"), [])
        self.anchors = [(("org", "*"), 0)]
        self.assertEqual(self.outcomes([self.sign(record_set, zone=("org", "*"))], TREE, "text"), [])
        record_set = make_set(STAR, "text", 60, ["x"])
        signed_sets = [self.sign(record_set, zone=STAR)]
        self.assertEqual(self.outcomes(signed_sets, STAR, "text"), [("data", 60, ("x",))])

    def test_one_record_set_in_several_signed_sets(self):
        record_set = make_set(ORG, "text", 60, ["x"])
        signed_sets = [(record_set, ()), self.sign(record_set, signer=1), self.sign(record_set),
                       self.sign(record_set, edition=3)]
        self.assertEqual(self.outcomes(signed_sets, ORG, "text"), [("data", 60, ("x",))])
        self.assertEqual(self.outcomes(signed_sets[:2], ORG, "text"), [])

    def test_later_signings_count(self):
        record_set = make_set(ORG, "text", 60, ["x"])
        signed_set = (record_set, ((ORG, 0, 1, 10, 20, 0),))
        self.assertEqual(self.outcomes([signed_set], ORG, "text"), [])
        self.assertEqual(self.sign(record_set), signed_set)
        self.assertEqual(self.outcomes([signed_set], ORG, "text"), [("data", 60, ("x",))])


class KeysTest(SearchTest):
    def test_a_key_set(self):
        text = self.sign(make_set(ORG, "text", 60, ["x"]), signer=1)
        for owner, keys, zone, signer, expected in (
            (ORG, [1], ORG, 0, 1), (ORG, [2, 1], ORG, 0, 1), (ORG, [2], ORG, 0, 0), (ORG, [1], ORG, 1, 0),
            (TREE, [1], ORG, 0, 0), (ORG, [1], (), 0, 0), (ORG, [1], TREE, 0, 0),
        ):
            with self.subTest(owner=owner, keys=keys, zone=zone, signer=signer):
                key_set = self.sign(make_set(owner, "key", 1, keys), zone=zone, signer=signer)
                self.assertEqual(len(self.outcomes([text, key_set], ORG, "text")), expected)

    def test_a_key_set_that_is_signed_by_a_key_that_it_alone_names(self):
        key_set = self.sign(make_set(ORG, "key", 1, [1, 2]), signer=1)
        text = self.sign(make_set(ORG, "text", 60, ["x"]), signer=1)
        self.assertEqual(self.outcomes([key_set, text], ORG, "text"), [])
        self.assertEqual(self.outcomes([key_set, text], ORG, "key"), [])
        self.anchors = [(ORG, 1)]
        self.assertEqual(len(self.outcomes([key_set, text], ORG, "text")), 1)

    def test_links(self):
        text = self.sign(make_set(TREE + ("a",), "text", 60, ["x"]), signer=1, zone=TREE)
        for owner, keys, zone, expected in (
            (TREE, [1], ORG, 1), (TREE, [3, 1], ORG, 1), (TREE, [3], ORG, 0), (ORG, [1], ORG, 0),
            (BUSH, [1], ORG, 0), (TREE + ("a",), [1], ORG, 0), (TREE, [1], (), 0),
        ):
            with self.subTest(owner=owner, keys=keys, zone=zone):
                link_set = self.sign(make_set(owner, "link", 1, keys), zone=zone)
                self.assertEqual(len(self.outcomes([text, link_set], TREE + ("a",), "text")), expected)

    def test_a_link_gives_a_key_for_the_zone_below_alone(self):
        link_set = self.sign(make_set(TREE, "link", 1, [1]))
        for owner, zone in ((ORG, ORG), (TREE, ORG), (ORG, TREE), (BUSH, TREE), ((), TREE)):
            text = self.sign(make_set(owner, "text", 60, ["x"]), signer=1, zone=zone)
            self.assertEqual(self.outcomes([link_set, text], owner, "text"), [])

    def test_several_zones(self):
        deep = TREE + ("a", "b")
        signed_sets = [
            self.sign(make_set(ORG, "key", 1, [0, 1])),
            self.sign(make_set(TREE, "link", 1, [2]), signer=1),
            self.sign(make_set(TREE, "key", 1, [2, 3]), signer=2, zone=TREE),
            self.sign(make_set(deep, "link", 1, [4]), signer=3, zone=TREE),
            self.sign(make_set(deep, "key", 1, [4, 5]), signer=4, zone=deep),
            self.sign(make_set(deep, "text", 60, ["x"]), signer=5, zone=deep),
        ]
        self.assertEqual(self.outcomes(signed_sets, deep, "text"), [("data", 60, ("x",))])
        self.assertEqual(self.outcomes(signed_sets, deep, "key"), [("data", 1, (4, 5))])
        self.assertEqual(self.outcomes(signed_sets, deep, "link"), [("data", 1, (4,))])
        for place in range(len(signed_sets)):
            rest = signed_sets[:place] + signed_sets[place + 1:]
            self.assertEqual(self.outcomes(rest, deep, "text"), [])

    def test_a_circle_of_keys(self):
        circle = [self.sign(make_set(ORG, "key", 1, [(signer + 1) - 3 * (signer == 3)]), signer=signer, edition=signer)
                  for signer in (1, 2, 3)]
        text = self.sign(make_set(ORG, "text", 60, ["x"]), signer=3)
        self.assertEqual(self.outcomes(circle + [text], ORG, "text"), [])
        entry = self.sign(make_set(ORG, "key", 1, [0, 2]))
        self.assertEqual(self.outcomes(circle + [text, entry], ORG, "text"), [("data", 60, ("x",))])
        self.anchors = [(ORG, 1)]
        self.assertEqual(self.outcomes(circle + [text], ORG, "text"), [("data", 60, ("x",))])

    def test_a_long_chain_of_keys(self):
        signers = [self.notary.new_signer() for _ in range(900)]
        self.anchors = [(ORG, signers[0].key)]
        signed_sets = []
        for signer, following in zip(signers, signers[1:]):
            record_set = make_set(ORG, "key", signer.key, [following.key])
            signature = sign_set(signer, record_set, zone=ORG, edition=1, start=0, end=99)
            signed_sets.append((record_set, (signature,)))
        text = make_set(ORG, "text", 60, ["x"])
        last = sign_set(signers[-1], text, zone=ORG, edition=1, start=0, end=99)
        random.Random(1).shuffle(signed_sets)
        self.assertEqual(self.outcomes(signed_sets + [(text, (last,))], ORG, "text"), [("data", 60, ("x",))])
        self.assertEqual(self.outcomes(signed_sets[1:] + [(text, (last,))], ORG, "text"), [])


class OrderTest(SearchTest):
    def test_the_order_of_codes(self):
        signed_sets = self.sign_all(
            gap(ORG, ORG), gap(STAR, ("org", "a")), make_set(STAR, "text", 5, ["y"]),
            make_set(STAR, "alias", 4, [("b",)]), make_set(NAME, "text", 9, ["x"]),
            make_set(NAME, "text", 5, ["x"]), make_set(NAME, "text", 5, ["a", "x"]),
            make_set(NAME, "alias", 4, [("a",)]), make_set(NAME, "alias", 3, [("c",)]))
        self.assertEqual(self.outcomes(signed_sets, NAME, "text"), [
            ("data", 5, ("a", "x")), ("data", 5, ("x",)), ("data", 5, ("y",)), ("data", 9, ("x",)),
            ("alias", 3, ("c",)), ("alias", 4, ("a",)), ("alias", 4, ("b",)), ("nodata",), ("noname",)])

    def test_editions_of_different_number(self):
        numbers = [2, 10, 1, 0, LAST, 9]
        signed_sets = [self.sign(make_set(NAME, "text", edition % 11, ["x"]), edition=edition)
                       for edition in numbers]
        self.assertEqual(self.outcomes(signed_sets, NAME, "text"), [
            ("data", edition % 11, ("x",)) for edition in sorted(numbers, reverse=True)])
        # The edition comes before the code.
        signed_sets = [self.sign(gap(ORG, ORG), edition=5), self.sign(gap(ORG, ("org", "m", "n")), edition=4),
                       self.sign(make_set(NAME, "alias", 1, [()]), edition=3),
                       self.sign(make_set(NAME, "text", 1, ["x"]), edition=2)]
        self.assertEqual(self.outcomes(signed_sets, NAME, "text"), [
            ("noname",), ("nodata",), ("alias", 1, ()), ("data", 1, ("x",))])

    def test_zones_of_different_depth(self):
        deep = TREE + ("m",)
        self.anchors = [((), 0), (ORG, 0), (TREE, 0), (("org", "a", "b", "c"), 0)]
        zones = ((), ORG, TREE)
        signed_sets = [self.sign(make_set(deep, "text", len(zone), ["x"]), zone=zone, edition=9 - len(zone))
                       for zone in zones]
        self.assertEqual(self.outcomes(signed_sets, deep, "text"), [
            ("data", 2, ("x",)), ("data", 1, ("x",)), ("data", 0, ("x",))])
        # The depth comes before the edition and the code.
        signed_sets += [self.sign(gap(TREE, TREE), zone=TREE, edition=0)]
        self.assertEqual(self.outcomes(signed_sets, deep, "text"), [
            ("data", 2, ("x",)), ("noname",), ("data", 1, ("x",)), ("data", 0, ("x",))])

    def test_the_greatest_rank_counts(self):
        self.anchors = [((), 0), (ORG, 0)]
        x, y = make_set(NAME, "text", 1, ["x"]), make_set(NAME, "text", 1, ["y"])
        x_first, y_first = [("data", 1, ("x",)), ("data", 1, ("y",))], [("data", 1, ("y",)), ("data", 1, ("x",))]
        for rest, expected in (
            ([], x_first), ([self.sign(y, edition=3)], y_first),
            ([self.sign(y, edition=3), self.sign(x, edition=3)], x_first),
            ([self.sign(y, edition=3), self.sign(x, edition=9, zone=())], y_first),
            ([self.sign(y, edition=3), self.sign(x, edition=4)], x_first),
            ([self.sign(y, edition=9, zone=())], x_first),
        ):
            signed_sets = [self.sign(x, edition=2), self.sign(y, edition=1)] + rest
            self.assertEqual(self.outcomes(signed_sets, NAME, "text"), expected)
        # The same outcome by different rules.
        signed_sets = [self.sign(gap(NAME, ORG), edition=1), self.sign(gap(ORG, ("org", "m", "n")), edition=7),
                       self.sign(gap(ORG, ORG), edition=4)]
        self.assertEqual(self.outcomes(signed_sets, NAME, "text"), [("nodata",), ("noname",)])
        self.assertEqual(self.outcomes(signed_sets[:1] + signed_sets[2:], NAME, "text"), [("noname",), ("nodata",)])

    def test_equal_first_items_of_mails_and_names(self):
        signed_sets = self.sign_all(
            make_set(NAME, "mail", 1, [(2, ("a",))]), make_set(NAME, "mail", 1, [(1, ("b",))]),
            make_set(NAME, "mail", 1, [(1, ("a", "z"))]), make_set(NAME, "mail", 1, [(1, ())]))
        self.assertEqual(self.outcomes(signed_sets, NAME, "mail"), [
            ("data", 1, ((1, ()),)), ("data", 1, ((1, ("a", "z")),)), ("data", 1, ((1, ("b",)),)),
            ("data", 1, ((2, ("a",)),))])


class UnlinkedTest(SearchTest):
    def test_cuts_with_and_without_links(self):
        cuts = [("org", "z"), TREE, BUSH, ("org", "a", "b"), ("org", "a-")]
        signed_sets = self.sign_all(
            *[gap(cut, ORG, "server") for cut in cuts], gap(("org", "l"), ORG, "server", "link"),
            gap(("org", "n"), ORG, "text"), gap(ORG, BUSH, "server"),
            make_set(("org", "q"), "server", 1, [()]))
        self.assertEqual(self.cuts(signed_sets), sorted(cuts))
        self.assertEqual(self.cuts([]), [])
        # Each one once.
        again = [self.sign(gap(TREE, BUSH, "server"), edition=2), self.sign(gap(TREE, ORG, "server"), edition=2)]
        self.assertEqual(self.cuts(signed_sets + again), sorted(cuts))

    def test_trusted_and_strange_keys(self):
        signed_set = self.sign(gap(TREE, ORG, "server"), signer=1)
        self.assertEqual(self.cuts([signed_set]), [])
        key_set = self.sign(make_set(ORG, "key", 1, [1]))
        self.assertEqual(self.cuts([signed_set, key_set]), [TREE])
        self.anchors = []
        self.assertEqual(self.cuts([signed_set, key_set]), [])

    def test_zones_and_times(self):
        self.anchors = [(ORG, 0), (TREE, 0)]
        self.assertEqual(self.cuts([self.sign(gap(TREE, ORG, "server"), zone=TREE)]), [])
        self.assertEqual(self.cuts([self.sign(gap(TREE + ("a",), ORG, "server"), zone=TREE)]), [TREE + ("a",)])
        signed_sets = self.sign_all(gap(TREE, ORG, "server"))
        for time, expected in ((9, []), (10, [TREE]), (20, [TREE]), (21, [])):
            self.time = time
            self.assertEqual(self.cuts(signed_sets), expected)


class AgainstTheDocumentTest(SearchTest):
    """Random signed sets, true and forged ones, against the plain restatement."""

    NAMES = [(), ("a",), ("a", "b"), ("a", "b", "c"), ("a-",), ("b",), ("*",), ("a", "*"), ("a", "b", "*"),
             ("b", "c"), ("c",), ("b", "c", "d")]

    def random_set(self, chance):
        kind = chance.choice(["text", "alias", "key", "link", "gap", "gap", "gap", "mail"])
        name = chance.choice(self.NAMES)
        if kind == "gap":
            kinds = tuple(other for other in KINDS if chance.random() < 0.2)
            return make_set(name, kind, 1, [(chance.choice(self.NAMES), kinds)])
        values = {"text": ["x", "y"], "alias": self.NAMES[:3], "key": range(6), "link": range(6), "mail": [(1, ())]}
        return make_set(name, kind, chance.randrange(2), [chance.choice(values[kind])])

    def random_sets(self, chance):
        signed_sets = []
        for _ in range(chance.randrange(5, 90)):
            signatures = ()
            record_set = self.random_set(chance)
            for _ in range(chance.choice([0, 1, 2, 2, 3, 4])):
                signatures += (sign_set(
                    chance.choice(self.signers), record_set, zone=chance.choice(self.NAMES[:1] * 4 + self.NAMES[:4]),
                    edition=chance.randrange(2), start=chance.choice([5, 9, 10, 15, 15, 16]),
                    end=chance.choice([15, 15, 20, 20, 20, 14])),)
            signed_sets.append((record_set, signatures))
        return signed_sets

    def compare(self, signed_sets, names):
        many = 0
        for name in names:
            for kind in ASKED:
                expected = derive.answers(self.notary, self.anchors, self.time, signed_sets, name, kind)
                with self.subTest(name=name, kind=kind):
                    self.assertEqual(self.outcomes(signed_sets, name, kind), expected)
                many = max(many, len(expected))
        self.assertEqual(self.cuts(signed_sets), derive.unlinked(
            self.notary, self.anchors, self.time, signed_sets))
        return many

    def test_forged_sets(self):
        many = []
        for seed in range(40):
            chance = random.Random(seed)
            self.anchors = [(chance.choice(self.NAMES[:2]), chance.randrange(6)) for _ in range(seed % 6)]
            many.append(self.compare(self.random_sets(chance), chance.sample(self.NAMES, 8)))
        self.assertGreater(max(many), 4)
        self.assertGreater(sum(many), 50)

    def test_sets_of_editions(self):
        for seed in range(12):
            chance = random.Random(seed)
            signed_sets = []
            self.anchors = []
            for number in range(2):
                apex, _, zone, _ = mixed_zone(seed * 2 + number)
                edition = publish(zone, number=number, heads=self.signers[:2], signers=self.signers[2:4],
                                  extra=[], start=10, end=20)
                self.anchors.append((apex, number))
                signed_sets += chance.sample(list(edition), len(list(edition)) * 3 // 4)
            self.compare(signed_sets, chance.sample(self.NAMES, 4) + [("org",), ("org", "a")])


class ManyTest(SearchTest):
    def test_hundreds_of_signed_sets(self):
        owners = [("org", f"n{place:03d}") for place in range(600)]
        signed_sets = [self.sign(gap(owner, following, "text"))
                       for owner, following in zip([ORG] + owners, owners + [ORG])]
        signed_sets += [self.sign(make_set(owner, "text", place, ["x"])) for place, owner in enumerate(owners)]
        random.Random(1).shuffle(signed_sets)
        self.assertEqual(len(signed_sets), 1201)
        self.assertEqual(self.outcomes(signed_sets, owners[77], "text"), [("data", 77, ("x",))])
        self.assertEqual(self.outcomes(signed_sets, owners[77], "mail"), [("nodata",)])
        self.assertEqual(self.outcomes(signed_sets, ("org", "n077a", "b"), "mail"), [("noname",)])
        self.assertEqual(self.outcomes(signed_sets, ("org", "z"), "mail"), [("noname",)])
        self.assertEqual(self.cuts(signed_sets), [])

    def test_many_answers(self):
        texts = [make_set(ORG, "text", ttl, ["x"]) for ttl in range(500)]
        signed_sets = [self.sign(text, edition=text[2] % 7) for text in texts]
        expected = sorted(range(500), key=lambda ttl: (-(ttl % 7), ttl))
        self.assertEqual(self.outcomes(signed_sets, ORG, "text"), [("data", ttl, ("x",)) for ttl in expected])


if __name__ == "__main__":
    unittest.main()
