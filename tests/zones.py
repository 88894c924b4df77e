"""Zones and editions for the tests."""

import random

from provenames.edition import publish
from provenames.notary import Notary
from provenames.zone import Zone
from tests import model

VALUES = {
    "address": [7], "text": ["x"], "mail": [(1, ())], "alias": [("z",)], "server": [("z",)],
    "link": [5],
}
NAMES = [
    (), ("a",), ("a", "b"), ("a", "b", "c"), ("a", "b", "d"), ("a-",), ("aa",), ("b",), ("b", "c", "d"),
    ("*",), ("a", "*"), ("b", "*"), ("b", "c", "*"), ("a", "b", "*"),
]


def zone_of(apex, quiet, *record_sets):
    """A zone with these record sets, each given by the arguments of put."""
    zone = Zone(apex, quiet)
    for name, kind, ttl, values in record_sets:
        zone.put(name, kind, ttl, values)
    return zone


def signed(zone, *, number=1, start=0, end=100, extra=()):
    """A signed edition of the zone by one new head and one new signer."""
    notary = Notary()
    return publish(zone, number=number, heads=[notary.new_signer()], signers=[notary.new_signer()],
                   extra=list(extra), start=start, end=end)


def unsigned(zone, *, number=1, start=0, end=100):
    return publish(zone, number=number, heads=[], signers=[], extra=[], start=start, end=end)


def mixed_zone(seed):
    """An apex, a quiet time, and a zone with different record sets, as a zone and as a dict."""
    chance = random.Random(seed)
    apex = chance.choice([(), (), ("a",), ("org",)])
    quiet = chance.randrange(1000)
    prefix = apex if apex == ("org",) else ()
    zone, table = Zone(apex, quiet), {}
    for _ in range(chance.randrange(25)):
        name = prefix + chance.choice(NAMES)
        kind = chance.choice(["address", "address", "text", "mail", "alias", "server", "server", "link"])
        if model.follows_rules(apex, list(table) + [(name, kind)]):
            ttl = chance.randrange(1000)
            values = VALUES[kind]
            if kind == "server":
                values = [prefix + chance.choice(NAMES) for _ in range(3)]
            zone.put(name, kind, ttl, values)
            table[name, kind] = (name, kind, ttl, tuple(sorted(set(values))))
    return apex, quiet, zone, table
