"""The whole program: zones, a desk, servers, a network and a resolver."""

import random
import unittest

from provenames.check import check
from provenames.lookup import outcome
from provenames.messages import write_reply
from provenames.names import ancestors, lies_in
from provenames.records import KINDS, make_set
from provenames.resolver import Resolver
from provenames.signatures import sign_set
from tests.worlds import APEXES, DEEP, ORG, TREE, publish_again, random_name, random_world

ASKED = tuple(kind for kind in KINDS if kind != "gap")


def resolver_of(world):
    return Resolver(world.notary, world.network, anchors=world.anchors, roots=world.roots)


def expected_outcome(world, name, kind):
    """Point 19 in the edition to which the referrals lead; None if that is outside of it."""
    apex = ()
    while True:
        found = outcome(world.editions[apex], name, kind)
        if found[0] != "referral":
            return None if found[0] == "outside" else found
        apex = found[1]


def expected_chain(world, name, kind):
    """The rounds of a resolving, and whether it ends in an answer."""
    chain = []
    while True:
        found = expected_outcome(world, name, kind)
        chain.append((name, found))
        if found is None or found[0] != "alias":
            return tuple(chain), found is not None
        name = found[2]
        if len(chain) == 9 or name in [other for other, _ in chain]:
            return tuple(chain), False


def names_around(world):
    """The owners of all editions, the names above them, and names below and beside them."""
    names = {()}
    for edition in world.editions.values():
        for record_set, _ in edition:
            for name in ancestors(record_set[0]):
                names.update([name, name[:-1] + ("b-",)])
                if name[-1:] != ("*",):
                    names.update([name + ("b",), name + ("*",), name + ("x", "y")])
    return sorted(names)


class UnbentTest(unittest.TestCase):
    def test_everything_is_secure(self):
        verdicts = set()
        for seed in range(10):
            world = random_world(seed)
            chance = random.Random(seed)
            kept = resolver_of(world)
            for name in names_around(world):
                for kind in chance.sample(ASKED, 3):
                    chain, answered = expected_chain(world, name, kind)
                    # A resolver that knows nothing yet, and one that remembers all that came before.
                    for resolver in (resolver_of(world), kept):
                        answer = resolver.resolve(name, kind, 15)
                        with self.subTest(seed=seed, name=name, kind=kind, kept=resolver is kept):
                            self.assertEqual(answer.chain, chain)
                            self.assertEqual(answer.verdict, "secure" if answered else "failed")
                    verdicts.add((answer.verdict, len(chain) > 1))
        self.assertEqual(verdicts, {("secure", False), ("secure", True), ("failed", False), ("failed", True)})

    def test_only_the_link_of_the_root_has_no_answer(self):
        world = random_world(1)
        for kind in ASKED:
            answer = resolver_of(world).resolve((), kind, 15)
            self.assertEqual(answer.verdict, "failed" if kind == "link" else "secure")

    def test_from_the_root_down_to_the_last_zone(self):
        world = random_world(2)
        answer = resolver_of(world).resolve(DEEP, "key", 15)
        self.assertEqual(answer.verdict, "secure")
        self.assertEqual(answer.chain[0][1], ("data", world.zones[DEEP].quiet, world.editions[DEEP].all_keys))
        steps = answer.derivations[0]
        keys = [step[1] for step in steps if step[1][0] == "key"]
        self.assertEqual([fact[1] for fact in keys if fact[2] == world.heads[fact[1]].key], [(), ORG, TREE, DEEP])
        self.assertTrue(check(world.notary, world.anchors, 15, steps))
        self.assertFalse(check(world.notary, [], 15, steps))


class BentTest(unittest.TestCase):
    """Whatever the network does, a secure outcome is one of a signed edition that is running."""

    def forged_reply(self, chance, world, apexes):
        """A reply with record sets that the signers of these zones have signed for any zone."""
        signed_sets = []
        for _ in range(3):
            name = random_name(chance)
            kind = chance.choice(["text", "alias", "key", "link", "gap", "server", "address"])
            values = {"text": ["forged"], "alias": [TREE], "key": [0, 3, 5], "link": [3, 5, 7], "address": [103],
                      "gap": [(random_name(chance), chance.choice([("gap",), ("server", "gap")]))],
                      "server": [random_name(chance)]}
            record_set = make_set(name, kind, chance.choice([0, 60]), values[kind])
            signatures = ()
            for apex in apexes:
                for zone in (apex, chance.choice(APEXES)):
                    signatures += (sign_set(chance.choice([world.signers, world.heads])[apex], record_set, zone=zone,
                                            edition=chance.choice([0, 1, 9]), start=0, end=99),)
            signed_sets.append((record_set, signatures))
        codes = ["data", "alias", "nodata", "noname", "referral", "refused"]
        return write_reply((chance.choice(codes), tuple(signed_sets)))

    def bend(self, chance, world, apexes):
        keep = ("change", -1, 0)
        return chance.choice([
            ("drop",), ("change", chance.choice([0, 5, 30]), chance.randrange(256)), ("cut", chance.randrange(99)),
            ("replay", chance.randrange(60)), ("redirect", 100 + chance.randrange(6)), ("strip",),
            ("omit", chance.randrange(3)), ("replace", self.forged_reply(chance, world, apexes)),
            ("replace", self.forged_reply(chance, world, apexes)), keep, keep, keep, keep, keep, keep])

    def secure_rounds(self, seed, apexes):
        """Resolve in a bent network; yield the world and the rounds that are secure."""
        world = random_world(seed, unsigned=True)
        chance = random.Random(seed)
        resolver = resolver_of(world)
        for place in range(12):
            if place % 4 == 3:
                publish_again(chance, world, place)
            for _ in range(chance.choice([0, 4, 8])):
                world.network.bend(self.bend(chance, world, apexes))
            kind = chance.choice(ASKED)
            time = chance.choice([14, 15, 15, 16])
            answer = resolver.resolve(random_name(chance), kind, time)
            for (name, found), steps in zip(answer.chain, answer.derivations):
                if steps is not None:
                    self.assertTrue(check(world.notary, world.anchors, time, steps))
                    yield world, time, name, kind, found

    def is_published(self, world, time, name, kind, found):
        return any(edition.signed and outcome(edition, name, kind) == found for edition in world.running(time))

    def test_no_bend_makes_an_answer_secure_that_no_edition_has(self):
        many = 0
        for seed in range(100):
            for case in self.secure_rounds(seed, []):
                with self.subTest(seed=seed, case=case[1:]):
                    self.assertTrue(self.is_published(*case))
                many += 1
        self.assertGreater(many, 200)

    def test_a_forged_set_of_one_zone_tells_nothing_of_names_outside_of_it(self):
        outside, inside = 0, 0
        for seed in range(200):
            for case in self.secure_rounds(seed, [TREE]):
                if lies_in(case[2], TREE):
                    inside += not self.is_published(*case)
                else:
                    with self.subTest(seed=seed, case=case[1:]):
                        self.assertTrue(self.is_published(*case))
                    outside += 1
        # Inside of the zone the forged sets are as good as true ones.
        self.assertGreater(outside, 200)
        self.assertGreater(inside, 0)


if __name__ == "__main__":
    unittest.main()
