"""What replies say without any proof: the outcomes that they claim, and where they refer to."""

from provenames.names import is_wildcard, lies_below

MOST_ADDRESSES = 8


def claimed_outcome(reply, name, kind):
    """Return the outcome that the reply claims for the question, or None."""
    code, signed_sets = reply
    if code in ("nodata", "noname"):
        return (code,)
    if len(signed_sets) == 0:
        return None
    owner, own_kind, ttl, values = signed_sets[0][0]
    if not is_fitting(owner, name):
        return None
    if code == "data" and own_kind == kind:
        return ("data", ttl, values)
    if code == "alias" and own_kind == "alias" and kind != "alias":
        return ("alias", ttl, values[0])
    return None


def is_fitting(owner, name):
    """Tell whether a record set of the owner may answer a question with the name."""
    return owner == name or (is_wildcard(owner) and lies_below(name, owner[:-1]))


def is_beyond_cut(name, kind, cut):
    """Tell whether the zone that begins at the cut answers the question."""
    # The zone above a cut answers for its links.
    return lies_below(name, cut) or (name == cut and kind != "link")


def referred_cut(reply, zone, name, kind):
    """Return the cut to which the reply refers the question from the zone, and the addresses.

    Returns None if the reply does not refer.
    """
    code, signed_sets = reply
    if code != "referral" or len(signed_sets) == 0:
        return None
    cut, own_kind, _, servers = signed_sets[0][0]
    if own_kind != "server" or not lies_below(cut, zone) or not is_beyond_cut(name, kind, cut):
        return None
    addresses = addresses_of(servers, signed_sets)[:MOST_ADDRESSES]
    return (cut, addresses) if addresses else None


def addresses_of(servers, signed_sets):
    """Return the addresses of the servers, each once, in the order of the signed sets."""
    addresses = {}
    for signed_set in signed_sets:
        owner, kind, _, values = signed_set[0]
        if kind == "address" and owner in servers:
            for address in values:
                addresses[address] = True
    return list(addresses)
