import random
import unittest

from provenames.check import check
from provenames.edition import publish
from provenames.messages import write_reply
from provenames.notary import Notary
from provenames.records import KINDS, make_set
from provenames.resolver import Answer, Resolver
from provenames.server import Server
from provenames.signatures import sign_set
from tests.walk import Walker
from tests.worlds import COM, DEEP, ORG, TREE, Tape, World, random_name, random_world
from tests.zones import unsigned, zone_of

LAST = 4294967295
ASKED = tuple(kind for kind in KINDS if kind != "gap")
REFUSED = ("refused", ())


class ResolverTest(unittest.TestCase):
    def setUp(self):
        self.world = World()
        self.network, self.notary = self.world.network, self.world.notary

    def resolver(self, *, anchors=None, roots=None):
        return Resolver(self.notary, self.network,
                        anchors=self.world.anchors if anchors is None else anchors,
                        roots=self.world.roots if roots is None else roots)

    def assert_answer(self, answer, verdict, *chain, asked=None):
        """All that holds of each answer, and what is expected of this one."""
        self.assertIs(type(answer), Answer)
        self.assertEqual((answer.verdict, answer.chain), (verdict, chain))
        for held in (answer.chain, answer.derivations):
            self.assertIs(type(held), tuple)
        self.assertEqual(len(answer.derivations), len(chain))
        if asked is not None:
            self.assertEqual(answer.asked, asked)
        if verdict == "secure":
            self.assertNotIn(None, answer.derivations)

    def check_derivations(self, answer, kind, time, resolver, anchors=None):
        for (name, found), steps in zip(answer.chain, answer.derivations):
            if steps is not None:
                self.assertIs(type(steps), list)
                self.assertEqual(steps[-1][1], ("answer", name, kind, found))
                anchors = self.world.anchors if anchors is None else anchors
                self.assertTrue(check(self.notary, anchors, time, steps))
                for step in steps:
                    self.assertEqual((type(step), type(step[2])), (tuple, tuple))
                    self.assertTrue(step[3] is None or step[3] in resolver.live(time))


class ScriptTest(ResolverTest):
    """Replies that a test gives one after the other; there is no server, so no reply follows them."""

    def setUp(self):
        self.notary, self.network = Notary(), Tape()
        self.strange, self.head, self.other = [self.notary.new_signer() for _ in range(3)]
        self.anchors = [((), self.head.key)]

    def script(self, *replies):
        """None is no reply, a list is delivered as it is, and a reply is written."""
        for reply in replies:
            if reply is None:
                self.network.bend(("drop",))
            else:
                self.network.bend(("replace", write_reply(reply) if isinstance(reply, tuple) else reply))

    def resolve(self, name, kind, replies, *, anchors=None, roots=(1,), time=15):
        """The answer of a new resolver in a new network."""
        self.network = Tape()
        self.script(*replies)
        self.used = Resolver(self.notary, self.network, anchors=self.anchors if anchors is None else anchors,
                             roots=list(roots))
        return self.used.resolve(name, kind, time)

    def signed(self, name, kind, ttl, values, *, signer=None, zone=(), edition=1, start=10, end=20):
        record_set = make_set(name, kind, ttl, values)
        signer = self.head if signer is None else signer
        signature = sign_set(signer, record_set, zone=zone, edition=edition, start=start, end=end)
        return (record_set, (signature,))

    def keys(self):
        return ("data", (self.signed((), "key", 60, [self.head.key]),))

    def plain(self, name, kind, ttl, values):
        return (make_set(name, kind, ttl, values), ())

    def referral(self, cut, *addresses, servers=None, sets=None):
        servers = [cut + ("ns",)] if servers is None else servers
        if sets is None:
            sets = [self.plain(servers[0], "address", 5, list(addresses))]
        return ("referral", (self.plain(cut, "server", 5, servers), *sets))


class StepTest(ScriptTest):
    """Point 36: each way in which a round can end, and what is sent."""

    def test_no_addresses(self):
        self.assert_answer(self.resolve(ORG, "text", [], roots=()), "failed", (ORG, None), asked=0)
        self.assertEqual(self.used.live(15), [])

    def test_no_reply(self):
        answer = self.resolve(ORG, "text", [], roots=(1, 2))
        self.assert_answer(answer, "failed", (ORG, None), asked=4)
        self.assertEqual(answer.derivations, (None,))
        self.assertEqual(self.network.sent, [
            (1, ((), (), "key")), (1, ((), ORG, "text")), (2, ((), (), "key")), (2, ((), ORG, "text"))])

    def test_octets_that_are_no_reply(self):
        good = write_reply(("nodata", ()))
        for octets in ([], [0], good[:-1], good + [0], [6, 0, 0], [-1, 0, 0], [2, 0, 256], [2, 0, 1]):
            answer = self.resolve(ORG, "text", [octets] * 4, roots=(1, 2), anchors=[])
            self.assert_answer(answer, "failed", (ORG, None), asked=4)
        self.assert_answer(self.resolve(ORG, "text", [None, good], anchors=[]), "insecure", (ORG, ("nodata",)))

    def test_an_answer_by_the_main_asking(self):
        text = self.signed(ORG, "text", 7, ["x"])
        answer = self.resolve(ORG, "text", [self.keys(), ("data", (text,))], roots=(1, 2))
        self.assert_answer(answer, "secure", (ORG, ("data", 7, ("x",))), asked=2)
        self.check_derivations(answer, "text", 15, self.used, self.anchors)
        self.assertEqual(self.used.live(15)[1:], [text])
        self.assertEqual(len(self.used.live(15)), 2)

    def test_an_answer_by_the_question_for_the_keys(self):
        text = self.signed(ORG, "text", 7, ["x"])
        for code in ("data", "alias", "nodata", "noname", "referral", "refused"):
            # The reply is used for its signed sets alone, whatever its code says.
            answer = self.resolve(ORG, "text", [(code, (text,)), None], roots=(1, 2))
            self.assert_answer(answer, "secure", (ORG, ("data", 7, ("x",))), asked=1)
            self.assertEqual(self.network.sent, [(1, ((), (), "key"))])

    def test_the_reply_to_the_question_for_the_keys_claims_nothing(self):
        claims = [("nodata", ()), ("noname", ()), ("data", (self.plain(ORG, "text", 1, ["x"]),)),
                  self.referral(ORG, 7)]
        for claim in claims:
            for anchors in ([], self.anchors):
                answer = self.resolve(ORG, "text", [claim, None], anchors=anchors)
                self.assert_answer(answer, "failed", (ORG, None), asked=2)
                self.assertEqual([address for address, _ in self.network.sent], [1, 1])

    def test_the_question_for_the_keys_is_left_out_where_it_is_answered(self):
        answer = self.resolve(ORG, "text", [self.keys(), None, None], roots=(1, 2, 3))
        self.assert_answer(answer, "failed", (ORG, None), asked=4)
        self.assertEqual(self.network.sent, [
            (1, ((), (), "key")), (1, ((), ORG, "text")), (2, ((), ORG, "text")), (3, ((), ORG, "text"))])

    def test_only_data_answers_the_question_for_the_keys(self):
        gap = self.signed((), "gap", 60, [((), ("text", "gap"))])
        alias = self.signed((), "alias", 60, [ORG])
        for sets in ((gap,), (alias,), (gap, alias)):
            self.resolve((), "text", [("data", sets)], roots=(1, 2))
            self.assertEqual(self.network.sent[0], (1, ((), (), "key")))
            # An answer for the kind key of the root is there, but it is no data.
            linked = self.used.resolve((), "key", 15)
            self.assertIn(linked.chain[0][1], (("nodata",), ("alias", 60, ORG)))
            self.network.sent.clear()
            self.used.resolve(ORG, "link", 9)
            self.assertEqual([question[2] for _, question in self.network.sent], ["key", "link"] * 2)
        answer = self.resolve((), "text", [("nodata", (gap,)), None, None, None], roots=(1, 2))
        self.assert_answer(answer, "failed", ((), None), asked=4)
        self.assertEqual([question[2] for _, question in self.network.sent], ["key", "text"] * 2)

    def test_keys_by_a_later_address(self):
        text = self.signed(ORG, "text", 7, ["x"], signer=self.other)
        keys = ("data", (self.signed((), "key", 60, [self.other.key]),))
        answer = self.resolve(ORG, "text", [None, ("data", (text,)), keys], roots=(1, 2))
        self.assert_answer(answer, "secure", (ORG, ("data", 7, ("x",))), asked=3)
        self.check_derivations(answer, "text", 15, self.used, self.anchors)

    def test_the_question_for_the_keys_itself(self):
        answer = self.resolve((), "key", [self.keys(), None])
        self.assert_answer(answer, "secure", ((), ("data", 60, (self.head.key,))), asked=1)
        answer = self.resolve((), "key", [None, self.keys()])
        self.assert_answer(answer, "secure", ((), ("data", 60, (self.head.key,))), asked=2)
        self.assertEqual(self.network.sent, [(1, ((), (), "key"))] * 2)

    def test_the_first_answer_counts(self):
        texts = [self.signed(ORG, "text", ttl, ["x"], edition=edition) for ttl, edition in ((1, 1), (2, 3), (3, 2))]
        answer = self.resolve(ORG, "text", [self.keys(), ("noname", tuple(texts))])
        self.assert_answer(answer, "secure", (ORG, ("data", 2, ("x",))), asked=2)
        self.check_derivations(answer, "text", 15, self.used, self.anchors)

    def test_an_answer_comes_before_a_referral_and_a_claim(self):
        gap = self.signed((), "gap", 60, [((), ("text", "gap"))])
        for reply in (("data", (self.plain(ORG, "text", 1, ["x"]), gap)),
                      ("referral", self.referral(ORG, 7)[1] + (gap,)), ("nodata", (gap,)), ("refused", (gap,))):
            answer = self.resolve(ORG, "text", [self.keys(), reply, None])
            self.assert_answer(answer, "secure", (ORG, ("noname",)), asked=2)

    def test_unsigned_sets_are_not_received(self):
        self.resolve(ORG, "text", [("data", (self.plain(ORG, "text", 1, ["x"]),)), self.referral(ORG, 7)])
        self.assertEqual(self.used.live(15), [])

    def test_sets_are_received_in_order_also_from_refusals_and_from_claims(self):
        sets = [self.signed((label,), "text", 7, ["x"], signer=self.strange) for label in "cab"]
        self.resolve(ORG, "text", [("refused", tuple(sets[:2])), ("nodata", (sets[2], sets[0]))])
        self.assertEqual(self.used.live(15), sets)


class ReferralTest(ScriptTest):
    def addresses(self, reply, name=TREE, kind="text", asked=2):
        """The addresses that are asked next, where no one of them answers."""
        answer = self.resolve(name, kind, [self.keys(), reply])
        self.assert_answer(answer, "failed", (name, None))
        self.assertEqual([address for address, _ in self.network.sent[:2]], [1, 1])
        if len(self.network.sent) > 2:
            self.assertEqual(len(self.network.sent) % 2, 0)
        return [address for address, _ in self.network.sent[2::2]]

    def test_a_referral(self):
        self.assertEqual(self.addresses(self.referral(ORG, 7, 8)), [7, 8])
        self.assertEqual(self.network.sent[2:], [
            (7, (ORG, ORG, "key")), (7, (ORG, TREE, "text")), (8, (ORG, ORG, "key")), (8, (ORG, TREE, "text"))])

    def test_the_other_addresses_are_left(self):
        answer = self.resolve(TREE, "text", [self.keys(), self.referral(ORG, 7)], roots=(1, 2, 3))
        self.assert_answer(answer, "failed", (TREE, None), asked=4)
        self.assertEqual([address for address, _ in self.network.sent], [1, 1, 7, 7])

    def test_several_referrals(self):
        replies = [self.keys(), self.referral(ORG, 7), None, self.referral(TREE, 8), None, self.referral(DEEP, 9)]
        answer = self.resolve(DEEP + ("x",), "text", replies)
        self.assert_answer(answer, "failed", (DEEP + ("x",), None), asked=8)
        self.assertEqual(self.network.sent[2:], [
            (7, (ORG, ORG, "key")), (7, (ORG, DEEP + ("x",), "text")), (8, (TREE, TREE, "key")),
            (8, (TREE, DEEP + ("x",), "text")), (9, (DEEP, DEEP, "key")), (9, (DEEP, DEEP + ("x",), "text"))])

    def test_cuts_that_do_not_fit(self):
        self.assertEqual(self.addresses(self.referral(TREE, 7)), [7])
        for cut in ((), COM, TREE + ("a",), ("or",), ("orgg",), ("*",), ("org", "*")):
            self.assertEqual(self.addresses(self.referral(cut, 7, servers=[("ns",)])), [])
        # From ORG on, to the zone itself and above it.
        for cut, expected in ((ORG, [7]), ((), [7]), (TREE, [7, 8])):
            replies = [self.keys(), self.referral(ORG, 7), None, self.referral(cut, 8)]
            self.resolve(TREE, "text", replies)
            self.assertEqual([address for address, _ in self.network.sent[2::2]], expected)

    def test_wildcards_as_cuts(self):
        self.assertEqual(self.addresses(self.referral(("*",), 7, servers=[()]), name=("*",)), [7])
        self.assertEqual(self.network.sent[2], (7, (("*",), ("*",), "key")))

    def test_the_kind_link(self):
        self.assertEqual(self.addresses(self.referral(ORG, 7), kind="link"), [7])
        self.assertEqual(self.addresses(self.referral(TREE, 7), kind="link"), [])
        self.assertEqual(self.addresses(self.referral(TREE, 7), TREE + ("a",), "link"), [7])

    def test_codes_and_kinds(self):
        sets = self.referral(ORG, 7)[1]
        for code in ("data", "alias", "refused"):
            self.assertEqual(self.addresses((code, sets)), [])
        self.assertEqual(self.addresses(("referral", ())), [])
        self.assertEqual(self.addresses(("referral", sets[::-1])), [])
        link = self.plain(ORG, "alias", 5, [ORG + ("ns",)])
        self.assertEqual(self.addresses(("referral", (link,) + sets[1:])), [])
        self.assertEqual(self.addresses(("referral", (link,) + sets)), [])

    def test_referrals_without_addresses(self):
        for sets in ([], [self.plain(ORG + ("other",), "address", 5, [7])],
                     [self.plain(ORG + ("ns",), "key", 5, [7])], [self.plain(ORG, "address", 5, [7])]):
            self.assertEqual(self.addresses(self.referral(ORG, sets=sets)), [])

    def test_the_order_of_addresses(self):
        servers = [("z",), ORG + ("ns",), ("b",)]
        sets = [self.plain(("z",), "address", 5, [9, 3]), self.plain(("c",), "address", 5, [77]),
                self.signed(("b",), "address", 5, [3, 1, 20], signer=self.strange),
                self.plain(("b",), "text", 5, ["x"]), self.plain(COM, "server", 5, [("c",)]),
                self.plain(ORG + ("ns",), "address", 5, [9, 2])]
        self.assertEqual(self.addresses(self.referral(ORG, servers=servers, sets=sets)), [3, 9, 1, 20, 2])

    def test_the_first_eight_addresses(self):
        many = self.referral(ORG, *range(30, 50))
        self.assertEqual(self.addresses(many), list(range(30, 38)))
        servers = [("a",), ("b",)]
        sets = [self.plain(("b",), "address", 5, [5, 6, 7, 8, 9]), self.plain(("a",), "address", 6, [6, 7, 5]),
                self.plain(("a",), "address", 5, [1, 5, 2, 3, 4])]
        self.assertEqual(self.addresses(self.referral(ORG, servers=servers, sets=sets)), [5, 6, 7, 8, 9, 1, 2, 3])

    def test_roots_are_taken_as_they_are(self):
        roots = list(range(1, 12)) + [1]
        self.resolve(ORG, "text", [self.keys()], roots=roots)
        self.assertEqual([address for address, _ in self.network.sent], [1] + roots)

    def test_signed_sets_of_referrals_are_received(self):
        link = self.signed(ORG, "link", 60, [self.other.key])
        text = self.signed(TREE, "text", 5, ["x"], signer=self.other, zone=ORG)
        reply = ("referral", self.referral(ORG, 7)[1] + (link,))
        answer = self.resolve(TREE, "text", [self.keys(), reply, None, ("data", (text,))])
        self.assert_answer(answer, "secure", (TREE, ("data", 5, ("x",))), asked=4)
        self.check_derivations(answer, "text", 15, self.used, self.anchors)


class ClaimTest(ScriptTest):
    """Point 33: without an anchor each claim is an insecure outcome, with one it is bogus."""

    def assert_claim(self, name, kind, reply, expected):
        with self.subTest(name=name, kind=kind, reply=reply):
            answer = self.resolve(name, kind, [None, reply], anchors=[])
            verdict = "failed" if expected is None else "insecure"
            self.assertEqual((answer.verdict, answer.chain[0]), (verdict, (name, expected)))
            self.assertEqual(answer.derivations, (None,))
            answer = self.resolve(name, kind, [None, reply])
            self.assert_answer(answer, "failed" if expected is None else "bogus", (name, None), asked=2)

    def test_data(self):
        for owner, name, fits in (
            (TREE, TREE, True), (("org", "*"), TREE, True), (("*",), TREE, True), (("*",), ORG, True),
            (("org", "*"), ("org", "*"), True), (("*",), ("org", "*"), True), ((), (), True),
            (ORG, TREE, False), (TREE + ("a",), TREE, False), (("org", "*"), ORG, False), (("*",), (), False),
            (("org", "tree", "*"), TREE, False), (("com", "*"), TREE, False), (COM, TREE, False),
            ((), TREE, False),
        ):
            expected = ("data", 9, ("x",)) if fits else None
            self.assert_claim(name, "text", ("data", (self.plain(owner, "text", 9, ["x"]),)), expected)
            # A signed set of a strange key is as good as one without signatures.
            signed = self.signed(owner, "text", 9, ["x"], signer=self.strange)
            self.assert_claim(name, "text", ("data", (signed,)), expected)

    def test_data_of_other_kinds(self):
        sets = (self.plain(TREE, "text", 9, ["x", "a"]), self.plain(TREE, "mail", 8, [(1, ())]))
        self.assert_claim(TREE, "text", ("data", sets), ("data", 9, ("a", "x")))
        # Only the first signed set counts.
        self.assert_claim(TREE, "mail", ("data", sets), None)
        self.assert_claim(TREE, "text", ("data", sets[1:]), None)
        self.assert_claim(TREE, "text", ("data", ()), None)
        alias = (self.plain(TREE, "alias", 9, [COM]),)
        self.assert_claim(TREE, "text", ("data", alias), None)
        self.assert_claim(TREE, "alias", ("data", alias), ("data", 9, (COM,)))

    def test_alias(self):
        for owner, name, fits in (
            (TREE, TREE, True), (("org", "*"), TREE, True), (("*",), TREE, True), (ORG, TREE, False),
            (TREE + ("*",), TREE, False), (COM, TREE, False),
        ):
            with self.subTest(owner=owner):
                reply = ("alias", (self.plain(owner, "alias", 9, [TREE]),))
                answer = self.resolve(name, "text", [None, reply], anchors=[])
                # The target is the name of a round already.
                self.assert_answer(answer, "failed", (name, ("alias", 9, TREE) if fits else None), asked=2)
                answer = self.resolve(name, "text", [None, reply])
                self.assert_answer(answer, "bogus" if fits else "failed", (name, None), asked=2)
                self.assert_claim(name, "alias", reply, None)
        text = (self.plain(TREE, "text", 9, ["x"]),)
        self.assert_claim(TREE, "text", ("alias", text), None)
        self.assert_claim(TREE, "text", ("alias", ()), None)
        self.assert_claim(TREE, "text", ("alias", text + (self.plain(TREE, "alias", 9, [COM]),)), None)

    def test_nodata_and_noname(self):
        for code in ("nodata", "noname"):
            for sets in ((), (self.plain(COM, "text", 1, ["x"]),), (self.plain(TREE, "text", 1, ["x"]),)):
                for kind in ASKED:
                    self.assert_claim(TREE, kind, (code, sets), (code,))

    def test_referrals_and_refusals(self):
        text = self.plain(TREE, "text", 1, ["x"])
        for sets in ((), (text,)):
            self.assert_claim(TREE, "text", ("refused", sets), None)
            self.assert_claim(TREE, "text", ("referral", sets), None)

    def test_the_next_address_after_a_claim(self):
        text = self.signed(TREE, "text", 9, ["x"])
        replies = [None, ("noname", ()), None, ("data", (text,))]
        answer = self.resolve(TREE, "text", replies, roots=(1, 2, 3))
        self.assert_answer(answer, "secure", (TREE, ("data", 9, ("x",))), asked=4)

    def test_a_claim_counts_for_the_whole_round(self):
        replies = [None, ("noname", ()), None, self.referral(ORG, 7), None, REFUSED]
        answer = self.resolve(TREE, "text", replies, roots=(1, 2, 3))
        self.assert_answer(answer, "bogus", (TREE, None), asked=6)
        # But not for the next round.
        alias = self.signed(ORG, "alias", 9, [COM])
        replies = [None, ("noname", ()), None, ("alias", (alias,)), None, None]
        answer = self.resolve(ORG, "text", replies, roots=(1, 2))
        self.assert_answer(answer, "failed", (ORG, ("alias", 9, COM)), (COM, None))

    def test_the_first_claim_of_an_unprotected_question_counts(self):
        replies = [None, REFUSED, None, ("noname", ()), None, ("nodata", ())]
        answer = self.resolve(TREE, "text", replies, roots=(1, 2, 3), anchors=[])
        self.assert_answer(answer, "insecure", (TREE, ("noname",)), asked=4)


class UnprotectedTest(ScriptTest):
    def verdict(self, name, kind, *, anchors=None, gaps=()):
        return self.resolve(name, kind, [("data", tuple(gaps)), ("noname", ())], anchors=anchors).verdict

    def test_the_anchors(self):
        key = self.head.key
        for anchors, expected in (
            ([], "insecure"), ([((), key)], "bogus"), ([(ORG, key)], "bogus"), ([(TREE, key)], "bogus"),
            ([(COM, key), (TREE + ("a",), key)], "insecure"), ([(("or",), key)], "insecure"),
            ([(("org", "*"), key)], "insecure"), ([(COM, key), (ORG, key)], "bogus"), ([((), LAST)], "bogus"),
        ):
            with self.subTest(anchors=anchors):
                self.assertEqual(self.verdict(TREE, "text", anchors=anchors), expected)
                self.assertEqual(self.verdict(TREE, "link", anchors=anchors), expected)

    def gap(self, owner, *kinds, following=(), **changes):
        return self.signed(owner, "gap", 60, [(following, kinds + ("gap",))], **changes)

    def test_a_cut_without_a_link(self):
        for name, expected in ((ORG, "insecure"), (TREE, "insecure"), (TREE + ("a",), "insecure"),
                               ((), "bogus")):
            self.assertEqual(self.verdict(name, "text", gaps=[self.gap(ORG, "server")]), expected)
        for name in (("org-",), ("or",), ("com", "org")):
            gaps = [self.gap(ORG, "server", following=("org", "a"))]
            self.assertEqual(self.verdict(name, "text", gaps=gaps), "bogus")
        self.assertEqual(self.verdict(ORG, "text", gaps=[self.gap(TREE, "server")]), "bogus")
        self.assertEqual(self.verdict(TREE, "text", gaps=[self.gap(TREE, "server")]), "insecure")

    def test_the_kind_link(self):
        gaps = [self.gap(ORG, "server")]
        # At the cut itself the zone above answers, here with nodata.
        self.assertEqual(self.verdict(ORG, "link", gaps=gaps), "secure")
        self.assertEqual(self.verdict(TREE, "link", gaps=gaps), "insecure")
        self.assertEqual(self.verdict(ORG, "text", gaps=gaps), "insecure")

    def test_the_kind_link_at_a_cut_that_has_an_answer_nowhere(self):
        # The gap set shows an alias too, so there is no answer for the kind link at the cut.
        gaps = [self.gap(ORG, "alias", "server")]
        self.assertEqual(self.verdict(ORG, "link", gaps=gaps), "bogus")
        self.assertEqual(self.verdict(ORG, "text", gaps=gaps), "insecure")
        self.assertEqual(self.verdict(TREE, "link", gaps=gaps), "insecure")

    def test_gap_sets_that_show_no_cut_without_a_link(self):
        before = ("org", "a")
        for gap in (self.gap(ORG, "server", "link"), self.gap(ORG, "link", following=before),
                    self.gap(ORG, "text", following=before), self.gap(ORG, "server", signer=self.strange),
                    self.gap(ORG, "server", zone=ORG), self.gap(ORG, "server", start=16),
                    self.gap(ORG, "server", end=14), self.gap(("or",), "server", following=ORG)):
            with self.subTest(gap=gap):
                self.assertEqual(self.verdict(TREE, "text", gaps=[gap]), "bogus")

    def test_a_cut_that_becomes_known_by_the_main_asking(self):
        reply = ("noname", (self.gap(ORG, "server"),))
        answer = self.resolve(TREE, "text", [None, reply])
        self.assert_answer(answer, "insecure", (TREE, ("noname",)), asked=2)

    def test_a_cut_that_was_received_and_lives_no_longer(self):
        self.script(("data", (self.gap(ORG, "server"),)))
        resolver = Resolver(self.notary, self.network, anchors=self.anchors, roots=[1])
        resolver.resolve(COM, "text", 11)
        for time, expected in ((14, "insecure"), (20, "insecure"), (10, "insecure"), (9, "bogus"), (21, "bogus")):
            self.script(None, ("noname", ()))
            self.assertEqual(resolver.resolve(TREE, "text", time).verdict, expected)


class AliasTest(ScriptTest):
    def alias(self, name, target, **changes):
        return self.signed(name, "alias", 9, [target], **changes)

    def chain_of(self, many):
        """Aliases from n0 on, as many as wanted."""
        names = [(f"n{place}",) for place in range(many + 1)]
        return names, [self.alias(name, target) for name, target in zip(names, names[1:])]

    def test_a_chain(self):
        names, aliases = self.chain_of(3)
        text = self.signed(names[3], "text", 4, ["x"])
        answer = self.resolve(names[0], "text", [("data", tuple(aliases) + (text,))])
        chain = [(name, ("alias", 9, target)) for name, target in zip(names, names[1:])]
        self.assert_answer(answer, "secure", *chain, (names[3], ("data", 4, ("x",))), asked=1)
        self.check_derivations(answer, "text", 15, self.used, self.anchors)

    def test_each_round_begins_at_the_root(self):
        names, aliases = self.chain_of(2)
        answer = self.resolve(names[0], "text", [
            self.keys(), ("alias", (aliases[0],)), ("alias", (aliases[1],)), None], roots=(1, 2))
        self.assert_answer(answer, "failed", (names[0], ("alias", 9, names[1])),
                           (names[1], ("alias", 9, names[2])), (names[2], None), asked=5)
        self.assertEqual([question for _, question in self.network.sent[1:]], [
            ((), names[0], "text"), ((), names[1], "text"), ((), names[2], "text"), ((), names[2], "text")])
        self.assertEqual([steps is None for steps in answer.derivations], [False, False, True])

    def test_an_alias_that_leads_back(self):
        for back in range(3):
            names, aliases = self.chain_of(2)
            aliases.append(self.alias(names[2], names[back]))
            answer = self.resolve(names[0], "text", [("data", tuple(aliases))])
            chain = list(zip(names, [("alias", 9, target) for target in names[1:] + [names[back]]]))
            self.assert_answer(answer, "failed", *chain, asked=1)
            self.assertNotIn(None, answer.derivations)
            self.check_derivations(answer, "text", 15, self.used, self.anchors)

    def test_nine_and_ten_rounds(self):
        for many in (7, 8, 9, 10, 12):
            names, aliases = self.chain_of(many)
            text = self.signed(names[many], "text", 4, ["x"])
            answer = self.resolve(names[0], "text", [("data", tuple(aliases) + (text,))])
            chain = [(name, ("alias", 9, target)) for name, target in zip(names, names[1:])]
            if many <= 8:
                self.assert_answer(answer, "secure", *chain, (names[many], ("data", 4, ("x",))), asked=1)
            else:
                self.assert_answer(answer, "failed", *chain[:9], asked=1)
                self.assertNotIn(None, answer.derivations)

    def test_the_kind_alias_follows_nothing(self):
        names, aliases = self.chain_of(3)
        answer = self.resolve(names[0], "alias", [("data", tuple(aliases))])
        self.assert_answer(answer, "secure", (names[0], ("data", 9, (names[1],))), asked=1)

    def test_the_worst_verdict(self):
        secure, insecure = self.alias(("a",), ("b",)), (make_set(("b",), "alias", 9, [("c",)]), ())
        gaps = tuple(self.signed((label,), "gap", 60, [((label,), ("server", "gap"))]) for label in "bc")
        first = [("data", (secure,) + gaps)]
        for end, verdict, outcome_of_c in (
            ([("nodata", ())], "insecure", ("nodata",)), ([REFUSED], "failed", None), ([], "failed", None),
        ):
            answer = self.resolve(("a",), "text", first + [None, ("alias", (insecure,)), None] + end)
            self.assert_answer(answer, verdict, (("a",), ("alias", 9, ("b",))), (("b",), ("alias", 9, ("c",))),
                               (("c",), outcome_of_c))
            self.assertEqual([steps is None for steps in answer.derivations], [False, True, True])
        # Bogus behind insecure: the last name is not below the cut.
        answer = self.resolve(("a",), "text", [("data", (secure, gaps[0])), None, ("alias", (insecure,)), None,
                                               ("nodata", ())])
        self.assert_answer(answer, "bogus", (("a",), ("alias", 9, ("b",))), (("b",), ("alias", 9, ("c",))),
                           (("c",), None))
        # Secure behind insecure.
        text = self.signed(("c",), "text", 4, ["x"])
        answer = self.resolve(("b",), "text", [("data", (gaps[0],)), ("alias", (insecure, text))])
        self.assert_answer(answer, "insecure", (("b",), ("alias", 9, ("c",))), (("c",), ("data", 4, ("x",))))
        self.assertEqual([steps is None for steps in answer.derivations], [True, False])
        # Insecure all the way around.
        back = (make_set(("c",), "alias", 9, [("b",)]), ())
        answer = self.resolve(("b",), "text", [None, ("alias", (insecure,)), None, ("alias", (back,))], anchors=[])
        self.assert_answer(answer, "failed", (("b",), ("alias", 9, ("c",))), (("c",), ("alias", 9, ("b",))))


class MemoryTest(ScriptTest):
    """What was received counts in later resolvings, as long as it lives."""

    def first(self, ttl=30, time=15):
        self.text = self.signed(ORG, "text", ttl, ["x"], end=99)
        self.answer = self.resolve(ORG, "text", [("data", (self.text,))], time=time)

    def test_no_question_where_the_answer_is_known(self):
        self.first()
        for time in (15, 16, 45, 10):
            answer = self.used.resolve(ORG, "text", time)
            self.assert_answer(answer, "secure", (ORG, ("data", 30, ("x",))), asked=0)
            self.check_derivations(answer, "text", time, self.used, self.anchors)
        self.assertEqual(len(self.network.sent), 1)

    def test_behind_the_end(self):
        self.first()
        answer = self.used.resolve(ORG, "text", 46)
        self.assert_answer(answer, "failed", (ORG, None), asked=2)
        self.assertEqual((self.used.live(45), self.used.live(46)), ([self.text], []))
        # It is received again, and lives longer then.
        self.script(("data", (self.text,)))
        self.assert_answer(self.used.resolve(ORG, "text", 50), "secure", (ORG, ("data", 30, ("x",))), asked=1)
        self.assert_answer(self.used.resolve(ORG, "text", 80), "secure", (ORG, ("data", 30, ("x",))), asked=0)
        self.assertEqual((self.used.live(80), self.used.live(81)), ([self.text], []))

    def test_a_lifetime_of_zero(self):
        self.first(ttl=0)
        self.assertEqual(self.used.resolve(ORG, "text", 15).asked, 0)
        self.assertEqual(self.used.resolve(ORG, "text", 16).asked, 2)
        self.assertEqual(self.used.resolve(ORG, "text", 14).asked, 0)

    def test_windows(self):
        text = self.signed(ORG, "text", LAST, ["x"], start=10, end=20)
        for time, expected in ((9, "failed"), (10, "secure"), (20, "secure"), (21, "failed")):
            answer = self.resolve(ORG, "text", [("data", (text,))], time=time)
            self.assertEqual(answer.verdict, expected)
            # It is received even when it is not valid, and counts when it is.
            self.assertEqual(self.used.live(15), [text])
            self.assertEqual(self.used.resolve(ORG, "text", 15).asked, 0)
            self.assertEqual(self.used.resolve(ORG, "text", 9).verdict, "failed")
            self.assertEqual(self.used.resolve(ORG, "text", 21).verdict, "failed")

    def test_the_keys_are_not_asked_for_again(self):
        self.resolve(ORG, "text", [self.keys()])
        self.network.sent.clear()
        self.used.resolve(COM, "text", 16)
        self.assertEqual(self.network.sent, [(1, ((), COM, "text"))])
        self.used.resolve(COM, "text", 9)
        self.assertEqual(self.network.sent[1:], [(1, ((), (), "key")), (1, ((), COM, "text"))])

    def test_strange_keys(self):
        strange = self.signed(ORG, "text", 30, ["x"], signer=self.strange)
        answer = self.resolve(ORG, "text", [("data", (strange,)), ("data", (strange,))])
        self.assert_answer(answer, "bogus", (ORG, None), asked=2)
        self.assertEqual(self.used.live(15), [strange])

    def test_asked_counts_one_resolving(self):
        resolver = Resolver(self.notary, self.network, anchors=self.anchors, roots=[1, 2])
        for _ in range(3):
            self.assertEqual(resolver.resolve(ORG, "text", 15).asked, 4)

    def test_resolvers_are_apart(self):
        self.first()
        other = Resolver(self.notary, self.network, anchors=self.anchors, roots=[1])
        self.assertEqual(other.live(15), [])
        self.assertEqual(other.resolve(ORG, "text", 15).asked, 2)


class CopyTest(ScriptTest):
    def test_lists_that_are_passed(self):
        anchors, roots = [((), self.head.key)], [1]
        resolver = Resolver(self.notary, self.network, anchors=anchors, roots=roots)
        anchors.clear()
        roots.append(2)
        self.script(self.keys(), ("noname", ()))
        answer = resolver.resolve(ORG, "text", 15)
        self.assert_answer(answer, "bogus", (ORG, None), asked=2)
        self.assertEqual((anchors, roots), ([], [1, 2]))
        self.assertEqual({address for address, _ in self.network.sent}, {1})

    def test_lists_that_are_returned(self):
        text = self.signed(ORG, "text", 30, ["x"])
        answer = self.resolve(ORG, "text", [("data", (text,))])
        self.used.live(15).clear()
        answer.derivations[0].clear()
        self.assertEqual(answer.derivations, ([],))
        self.assertEqual(self.used.live(15), [text])
        again = self.used.resolve(ORG, "text", 15)
        self.assertEqual(again.asked, 0)
        self.check_derivations(again, "text", 15, self.used, self.anchors)
        self.assertEqual(len(again.derivations[0]), 3)

    def test_the_notary_and_the_network_are_used_themselves(self):
        resolver = Resolver(self.notary, self.network, anchors=[((), 9)], roots=[1])
        self.assertEqual(resolver.resolve(ORG, "text", 15).verdict, "failed")
        signers = [self.notary.new_signer() for _ in range(7)]
        self.assertEqual(signers[-1].key, 9)
        edition = publish(zone_of((), 60, (ORG, "text", 5, ["x"])), number=1, heads=signers[-1:],
                          signers=signers[:1], extra=[], start=10, end=20)
        server = Server()
        server.hold(edition)
        self.network.attach(1, server)
        answer = resolver.resolve(ORG, "text", 15)
        self.assert_answer(answer, "secure", (ORG, ("data", 5, ("x",))), asked=2)
        server.release(())
        self.network.attach(1, Server())
        self.assertEqual(resolver.resolve(COM, "text", 15).verdict, "failed")
        self.assertEqual(resolver.resolve(ORG, "text", 15).verdict, "secure")


class WorldTest(ResolverTest):
    """A small world: the root, ORG with a link, COM without one, and TREE and DEEP below ORG."""

    def setUp(self):
        ResolverTest.setUp(self)
        world, self.zones = self.world, {}
        for apex, *record_sets in (
            ((), (("a",), "alias", 9, [TREE + ("www",)])),
            (ORG, (ORG + ("c",), "alias", 9, [COM + ("www",)]), (ORG + ("w", "*"), "text", 9, ["wild"])),
            (COM, (COM + ("www",), "address", 9, [80])), (TREE, (TREE + ("www",), "address", 9, [77])),
            (DEEP, (DEEP, "text", 9, ["deep"])),
        ):
            self.zones[apex] = zone_of(apex, 300, *record_sets)
        world.link(self.zones[()], ORG)
        world.link(self.zones[()], COM, linked=False)
        world.link(self.zones[ORG], TREE)
        world.link(self.zones[TREE], DEEP)
        for apex, zone in self.zones.items():
            world.publish(zone, signed=apex != COM)

    def questions(self):
        return [question for _, question in self.network.sent]

    def test_down_to_the_last_zone(self):
        answer = self.resolver().resolve(DEEP, "text", 15)
        self.assert_answer(answer, "secure", (DEEP, ("data", 9, ("deep",))), asked=8)
        self.assertEqual(self.network.sent, [
            (100, ((), (), "key")), (100, ((), DEEP, "text")), (101, (ORG, ORG, "key")),
            (101, (ORG, DEEP, "text")), (103, (TREE, TREE, "key")), (103, (TREE, DEEP, "text")),
            (104, (DEEP, DEEP, "key")), (104, (DEEP, DEEP, "text"))])

    def test_the_second_time(self):
        resolver = self.resolver()
        first = resolver.resolve(DEEP, "text", 15)
        self.check_derivations(first, "text", 15, resolver)
        self.network.sent.clear()
        self.assert_answer(resolver.resolve(DEEP, "text", 20), "secure", *first.chain, asked=0)
        # The keys live longer than the referrals, which are not received.
        self.assert_answer(resolver.resolve(DEEP, "mail", 20), "secure", (DEEP, ("nodata",)), asked=4)
        self.assertEqual(self.questions(), [((), DEEP, "mail"), (ORG, DEEP, "mail"), (TREE, DEEP, "mail"),
                                            (DEEP, DEEP, "mail")])
        self.assert_answer(resolver.resolve(DEEP, "text", 21), "bogus", (DEEP, None))

    def test_aliases_over_several_zones(self):
        resolver = self.resolver()
        answer = resolver.resolve(("a",), "address", 15)
        self.assert_answer(answer, "secure", (("a",), ("alias", 9, TREE + ("www",))),
                           (TREE + ("www",), ("data", 9, (77,))), asked=2 + 5)
        self.check_derivations(answer, "address", 15, resolver)
        answer = resolver.resolve(ORG + ("c",), "address", 15)
        self.assert_answer(answer, "insecure", (ORG + ("c",), ("alias", 9, COM + ("www",))),
                           (COM + ("www",), ("data", 9, (80,))))
        self.assertEqual([steps is None for steps in answer.derivations], [False, True])

    def test_a_cut_without_a_link(self):
        resolver = self.resolver()
        for name, kind, verdict, expected in (
            (COM + ("www",), "address", "insecure", ("data", 9, (80,))),
            (COM + ("www",), "text", "insecure", ("nodata",)), (COM + ("x",), "text", "insecure", ("noname",)),
            (COM, "server", "insecure", ("nodata",)), (COM, "link", "secure", ("nodata",)),
            (COM + ("www",), "link", "insecure", ("nodata",)),
        ):
            answer = resolver.resolve(name, kind, 15)
            self.assert_answer(answer, verdict, (name, expected))
            self.check_derivations(answer, kind, 15, resolver)

    def test_links(self):
        resolver = self.resolver()
        for cut in (ORG, TREE, DEEP):
            expected = ("data", 60, (self.world.heads[cut].key,))
            self.assert_answer(resolver.resolve(cut, "link", 15), "secure", (cut, expected))
        self.assert_answer(resolver.resolve((), "link", 15), "failed", ((), None))

    def test_wildcards(self):
        resolver = self.resolver()
        for name in (ORG + ("w", "x"), ORG + ("w", "x", "y"), ORG + ("w", "*")):
            self.assert_answer(resolver.resolve(name, "text", 15), "secure", (name, ("data", 9, ("wild",))))
            self.assert_answer(resolver.resolve(name, "mail", 15), "secure", (name, ("nodata",)))

    def test_times_outside_of_the_editions(self):
        for time, expected in ((9, "bogus"), (10, "secure"), (20, "secure"), (21, "bogus")):
            answer = self.resolver().resolve(DEEP, "text", time)
            self.assertEqual(answer.verdict, expected)
            self.assertEqual(answer.asked, 8)

    def test_strange_anchors(self):
        for anchors, expected in (([], "insecure"), ([((), 77)], "bogus"), ([(COM, 0)], "insecure"),
                                  ([(TREE, self.world.heads[TREE].key)], "secure"),
                                  ([(DEEP, self.world.heads[DEEP].key)], "secure"),
                                  ([(TREE, self.world.heads[ORG].key)], "bogus")):
            resolver = self.resolver(anchors=anchors)
            answer = resolver.resolve(DEEP, "text", 15)
            self.assertEqual(answer.verdict, expected)
            self.check_derivations(answer, "text", 15, resolver, anchors)

    def test_a_server_that_serves_nothing(self):
        self.world.servers[TREE].release(TREE)
        answer = self.resolver().resolve(DEEP, "text", 15)
        self.assert_answer(answer, "failed", (DEEP, None), asked=6)
        resolver = self.resolver(roots=[7, 100, 101])
        answer = resolver.resolve(ORG, "mail", 15)
        self.assert_answer(answer, "secure", (ORG, ("nodata",)), asked=2 + 2 + 2)

    def bent(self, place, bend, name=DEEP, kind="text"):
        """The answer where the sending with this number is bent."""
        network = self.world.network
        many = len(network)
        resolver = self.resolver()
        script = [("change", -1, 0)] * place + [bend]
        for one in script:
            network.bend(one)
        answer = resolver.resolve(name, kind, 15)
        for _ in range(many + len(script) - len(network)):
            network.send(0, [])
        return answer

    def test_bends_on_the_way(self):
        good = ("data", 9, ("deep",))
        strange = write_reply(("data", ((make_set(DEEP, "text", 9, ["forged"]), ()),)))
        for place, bend, verdict, found, asked in (
            # The answer is lost or spoiled, and there is one address only.
            (7, ("drop",), "failed", None, 8), (7, ("cut", 9), "failed", None, 8),
            (7, ("replace", []), "failed", None, 8), (7, ("replace", strange), "bogus", None, 8),
            (7, ("strip",), "bogus", None, 8), (7, ("omit", 0), "failed", None, 8),
            (7, ("redirect", 101), "failed", None, 8), (7, ("redirect", 0), "failed", None, 8),
            (7, ("change", 0, 5), "secure", good, 8), (7, ("change", 0, 6), "failed", None, 8),
            # A referral is lost, stripped of its link, or led elsewhere.
            (1, ("drop",), "failed", None, 2), (3, ("omit", 0), "failed", None, 4),
            (3, ("omit", 1), "bogus", None, 8), (3, ("strip",), "bogus", None, 8),
            (3, ("omit", 2), "failed", None, 4), (5, ("redirect", 100), "failed", None, 6),
            # The keys of a zone are lost: they are not asked for elsewhere.
            (0, ("drop",), "bogus", None, 8), (6, ("drop",), "bogus", None, 8),
            (4, ("strip",), "bogus", None, 8), (2, ("redirect", 104), "bogus", None, 8),
        ):
            with self.subTest(place=place, bend=bend):
                answer = self.bent(place, bend)
                self.assert_answer(answer, verdict, (DEEP, found), asked=asked)

    def test_replays(self):
        resolver = self.resolver()
        resolver.resolve(DEEP, "text", 15)
        first = len(self.network) - 8
        for place, number, verdict in ((7, 7, "secure"), (7, 6, "failed"), (1, 1, "secure"), (3, 1, "failed"),
                                       (6, 7, "bogus"), (7, 2, "failed")):
            with self.subTest(place=place, number=number):
                answer = self.bent(place, ("replay", first + number))
                self.assertEqual(answer.verdict, verdict)

    def test_replay_of_an_older_edition(self):
        self.resolver().resolve(DEEP, "text", 15)
        self.zones[DEEP].put(DEEP, "text", 9, ["new"])
        self.world.publish(self.zones[DEEP], number=2, start=12, end=30)
        self.assert_answer(self.resolver().resolve(DEEP, "text", 15), "secure", (DEEP, ("data", 9, ("new",))))
        # Both editions are running, so the older one is as good, unless both are received.
        self.assert_answer(self.bent(7, ("replay", 7)), "secure", (DEEP, ("data", 9, ("deep",))))
        resolver = self.resolver()
        new = len(self.network) + 7
        resolver.resolve(DEEP, "text", 15)
        self.network.bend(("replay", 7))
        self.assert_answer(resolver.resolve(DEEP, "mail", 15), "failed", (DEEP, None), asked=1)
        self.assert_answer(resolver.resolve(DEEP, "text", 15), "secure", (DEEP, ("data", 9, ("new",))), asked=0)
        resolver = self.resolver()
        for bend in [("change", -1, 0)] * 7 + [("replay", 7), ("replay", new)]:
            self.network.bend(bend)
        self.assert_answer(resolver.resolve(DEEP, "text", 15), "secure", (DEEP, ("data", 9, ("deep",))), asked=8)
        self.assert_answer(resolver.resolve(DEEP, "mail", 15), "failed", (DEEP, None), asked=1)
        self.assert_answer(resolver.resolve(DEEP, "text", 15), "secure", (DEEP, ("data", 9, ("new",))), asked=0)

    def test_unsigned_editions_below_a_link(self):
        self.world.servers[TREE].hold(unsigned(self.zones[TREE], number=5, start=10, end=20))
        answer = self.resolver().resolve(TREE + ("www",), "address", 15)
        self.assert_answer(answer, "bogus", (TREE + ("www",), None), asked=6)


class AgainstTheDocumentTest(unittest.TestCase):
    """Random worlds, questions, times and bends against the plain restatement of points 31 to 37."""

    def bend(self, chance, world):
        number = chance.randrange(-1, 40)
        forged = ("data", (self.forged(chance, world),))
        return chance.choice([
            ("drop",), ("change", chance.choice([0, 0, 9, 40]), chance.randrange(7)), ("cut", number),
            ("replay", number), ("replay", chance.randrange(9)), ("redirect", 100 + chance.randrange(6)),
            ("strip",), ("omit", chance.randrange(3)), ("omit", 1), ("replace", write_reply(forged)),
            ("replace", write_reply((chance.choice(["nodata", "noname"]), ())))] + [("change", -1, 0)] * 8)

    def forged(self, chance, world):
        record_set = make_set(random_name(chance), "text", 5, ["forged"])
        apex = chance.choice(sorted(world.signers))
        signature = sign_set(world.signers[apex], record_set, zone=apex, edition=1, start=10, end=20)
        return (record_set, (signature,) if chance.random() < 0.5 else ())

    def run_one(self, seed):
        """The verdicts of some resolvings, which are the same in two equal worlds."""
        worlds = [random_world(seed, unsigned=True) for _ in range(2)]
        chance = random.Random(seed)
        anchors = list(worlds[0].anchors)
        if chance.random() < 0.3:
            apex = chance.choice(sorted(worlds[0].heads))
            anchors = chance.choice([[], anchors]) + [(apex, worlds[0].heads[apex].key)]
        roots = chance.choice([[100], [100], [99, 100], [101, 100], [100, 100]])
        resolver = Resolver(worlds[0].notary, worlds[0].network, anchors=anchors, roots=roots)
        walker = Walker(worlds[1].notary, worlds[1].network, anchors, roots)
        found = []
        for _ in range(8):
            for _ in range(chance.choice([0, 0, 4, 8])):
                state = chance.getstate()
                for world in worlds:
                    chance.setstate(state)
                    world.network.bend(self.bend(chance, world))
            name, kind, time = random_name(chance), chance.choice(ASKED), chance.choice([15, 15, 15, 16, 22])
            answer = resolver.resolve(name, kind, time)
            self.assertEqual((answer.verdict, answer.chain, answer.asked), walker.resolve(name, kind, time))
            self.assertEqual(worlds[0].network.sent, worlds[1].network.sent)
            self.assertEqual(resolver.live(time), walker.live(time))
            for (target, outcome_found), steps in zip(answer.chain, answer.derivations):
                if steps is not None:
                    self.assertEqual(steps[-1][1], ("answer", target, kind, outcome_found))
                    self.assertTrue(check(worlds[0].notary, anchors, time, steps))
            if answer.verdict == "secure":
                self.assertNotIn(None, answer.derivations)
            found.append(answer.verdict)
        return found

    def test_random_worlds(self):
        verdicts = []
        for seed in range(120):
            with self.subTest(seed=seed):
                verdicts += self.run_one(seed)
        for verdict in ("secure", "insecure", "bogus", "failed"):
            self.assertGreater(verdicts.count(verdict), 20, verdict)


if __name__ == "__main__":
    unittest.main()
