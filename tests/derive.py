"""A plain restatement of points 26 to 30 for comparisons: it tries every rule on everything.

It is slow, and it shares no code with the program but is_valid.
"""

from provenames.signatures import is_valid
from tests.model import lies_below, lies_in

CODES = ("data", "alias", "nodata", "noname")


def covers(zone, gap_set, name):
    """Point 27."""
    owner, following, kinds = gap_set[0], gap_set[3][0][0], gap_set[3][0][1]
    if lies_below(name, owner) and "server" in kinds and owner != zone:
        return False
    return lies_below(name, zone) and owner < name and (name < following or following == zone)


def clears(zone, gap_set, name):
    """Point 27."""
    return covers(zone, gap_set, name) and not lies_below(gap_set[3][0][0], name)


def source(gap_set, name):
    """Point 27."""
    shared = [name[:k] for k in range(len(name) + 1)
              if name[:k] in (gap_set[0][:k], gap_set[3][0][0][:k])]
    return shared[-1] + ("*",)


def trusted(notary, anchors, time, signed_sets):
    """The facts about keys and sets that are derivable, as two sets."""
    keys, sets = set(anchors), set()
    while True:
        more_keys, more_sets = set(keys), set(sets)
        for record_set, signatures in signed_sets:
            for signature in signatures:
                zone, key, edition = signature[:3]
                if (zone, key) in keys and lies_in(record_set[0], zone):
                    if is_valid(notary, signature, record_set, time):
                        more_sets.add((zone, edition, record_set))
        for zone, _, (owner, kind, _, values) in sets:
            if kind == "key" and owner == zone:
                more_keys |= {(zone, key) for key in values}
            if kind == "link" and lies_below(owner, zone):
                more_keys |= {(owner, key) for key in values}
        if (more_keys, more_sets) == (keys, sets):
            return keys, sets
        keys, sets = more_keys, more_sets


def by_one(zone, record_set, name, kind):
    """The outcomes that rules with one premise give."""
    owner, own_kind, ttl, values = record_set
    if owner == name and own_kind == kind:
        yield ("data", ttl, values)
    if owner == name and own_kind == "alias" and kind != "alias":
        yield ("alias", ttl, values[0])
    if own_kind == "gap":
        following, kinds = values[0]
        if owner == name and kind not in kinds and "alias" not in kinds:
            if kind == "link" or "server" not in kinds or owner == zone:
                yield ("nodata",)
        if covers(zone, record_set, name) and lies_below(following, name):
            yield ("nodata",)


def by_two(zone, first, second, name, kind):
    """The outcomes that rules with two premises give."""
    if first[1] != "gap" or not clears(zone, first, name):
        return
    origin = source(first, name)
    owner, own_kind, ttl, values = second
    if own_kind == "gap" and covers(zone, second, origin):
        yield ("noname",)
    if owner == origin and own_kind == kind:
        yield ("data", ttl, values)
    if owner == origin and own_kind == "alias" and kind != "alias":
        yield ("alias", ttl, values[0])
    if owner == origin and own_kind == "gap" and kind not in values[0][1] and "alias" not in values[0][1]:
        yield ("nodata",)


def answers(notary, anchors, time, signed_sets, name, kind):
    """The outcomes in the order of point 30."""
    ranks = {}
    sets = trusted(notary, anchors, time, signed_sets)[1]
    for zone, edition, first in sets:
        if kind == "link" and name == zone:
            continue
        found = list(by_one(zone, first, name, kind))
        for other_zone, other_edition, second in sets:
            if (other_zone, other_edition) == (zone, edition):
                found += by_two(zone, first, second, name, kind)
        for outcome in found:
            ranks.setdefault(outcome, []).append((len(zone), edition))
    return sorted(ranks, key=lambda outcome: (
        -max(ranks[outcome])[0], -max(ranks[outcome])[1], CODES.index(outcome[0]), outcome))


def unlinked(notary, anchors, time, signed_sets):
    """The cuts in ascending order."""
    found = set()
    for zone, _, (owner, kind, _, values) in trusted(notary, anchors, time, signed_sets)[1]:
        if kind == "gap" and lies_below(owner, zone):
            if "server" in values[0][1] and "link" not in values[0][1]:
                found.add(owner)
    return sorted(found)
