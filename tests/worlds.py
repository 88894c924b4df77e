"""Trees of zones with a desk, a network and servers, for the tests."""

import random

from provenames.desk import Desk
from provenames.edition import publish
from provenames.errors import ZoneConflict
from provenames.messages import read_question
from provenames.network import Network
from provenames.notary import Notary
from provenames.server import Server
from provenames.zone import Zone

ORG, COM, TREE, DEEP = ("org",), ("com",), ("org", "tree"), ("org", "tree", "a", "b")
APEXES = ((), ORG, COM, TREE, DEEP)
LABELS = ("a", "b", "c", "www", "*")


class Tape(Network):
    """A network that remembers what was sent to it: pairs of an address and a question."""

    def __init__(self):
        Network.__init__(self)
        self.sent = []

    def send(self, address, octets):
        self.sent.append((address, read_question(octets)))
        return Network.send(self, address, octets)


class World:
    """For each zone a head, a signer, an address and a server; the desk has an anchor for the root."""

    def __init__(self, apexes=APEXES):
        self.notary, self.network, self.editions, self.zones = Notary(), Tape(), {}, {}
        self.heads, self.signers, self.servers, self.addresses = {}, {}, {}, {}
        for place, apex in enumerate(apexes):
            self.heads[apex] = self.notary.new_signer()
            self.signers[apex] = self.notary.new_signer()
            self.servers[apex] = Server()
            self.addresses[apex] = 100 + place
            self.network.attach(100 + place, self.servers[apex])
        self.anchors = [((), self.heads[()].key)]
        self.roots = [self.addresses[()]]
        self.desk = Desk(self.anchors)

    def link(self, zone, cut, *, linked=True, ttl=60):
        """Put a cut with a server, its address and perhaps a link into the zone."""
        zone.put(cut, "server", ttl, [cut + ("ns",)])
        zone.put(cut + ("ns",), "address", ttl, [self.addresses[cut]])
        if linked:
            zone.put(cut, "link", ttl, [self.heads[cut].key])

    def publish(self, zone, *, number=1, start=10, end=20, signed=True):
        """Publish the zone, give the edition to the desk, and let the server hold it."""
        apex = zone.apex
        edition = publish(
            zone, number=number, heads=[self.heads[apex]] if signed else [],
            signers=[self.signers[apex]] if signed else [], extra=[], start=start, end=end)
        self.desk.accept(edition)
        self.servers[apex].hold(edition)
        self.editions[apex] = edition
        self.zones[apex] = zone
        return edition

    def running(self, time):
        """All accepted editions that are running at the time."""
        return [edition for apex in self.zones for edition in self.desk.running(apex, time)]


def cut_above(apex, apexes):
    """The longest one of the apexes above the apex."""
    return max((other for other in apexes if other != apex and apex[:len(other)] == other), key=len)


def random_world(seed, *, unsigned=False, apexes=APEXES):
    """A world with random zones; if wanted, some of them without a link or without signatures."""
    chance = random.Random(seed)
    world = World(apexes)
    for apex in apexes:
        zone = Zone(apex, chance.choice([0, 5, 300]))
        plain = False
        for below in apexes:
            if below != () and cut_above(below, apexes) == apex:
                world.link(zone, below, linked=not (unsigned and chance.random() < 0.5))
        for _ in range(chance.randrange(12)):
            put_random(chance, zone)
        if unsigned and apex != () and (apex, "link") not in world_links(world):
            plain = chance.random() < 0.5
        world.publish(zone, signed=not plain)
    return world


def publish_again(chance, world, number):
    """Publish another edition of one of the signed zones, which has changed."""
    apex = chance.choice([apex for apex in sorted(world.editions) if world.editions[apex].signed])
    for _ in range(4):
        put_random(chance, world.zones[apex])
    world.publish(world.zones[apex], number=number, start=chance.choice([10, 14, 15]), end=chance.choice([15, 25]))


def world_links(world):
    """The owners of links in the editions so far, with the kind."""
    return {signed_set[0][:2] for edition in world.editions.values() for signed_set in edition
            if signed_set[0][1] == "link"}


def put_random(chance, zone):
    """Put a record set into the zone, if it may stand there."""
    name = zone.apex + tuple(chance.choice(LABELS[:4]) for _ in range(chance.randrange(3)))
    if chance.random() < 0.3:
        name += ("*",)
    kind = chance.choice(["address", "text", "text", "mail", "alias", "alias"])
    target = chance.choice(APEXES) + tuple(chance.choice(LABELS[:4]) for _ in range(chance.randrange(2)))
    values = {"address": [chance.randrange(9)], "text": ["x"], "mail": [(1, ())], "alias": [target]}
    try:
        zone.put(name, kind, chance.choice([0, 3, 60]), values[kind])
    except ZoneConflict:
        pass


def random_name(chance):
    """A name in or beside the zones."""
    name = chance.choice(APEXES) + tuple(chance.choice(LABELS[:4]) for _ in range(chance.randrange(3)))
    return name + ("*",) if chance.random() < 0.15 else name
