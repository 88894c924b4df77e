"""A plain restatement of the document for comparisons, slow and without any index.

A zone is here a dict from pairs of an owner and a kind to record sets.
"""

KINDS = ("address", "text", "mail", "alias", "server", "start", "key", "link", "gap")


def lies_in(name, above):
    return name[:len(above)] == above


def lies_below(name, above):
    return lies_in(name, above) and name != above


def owners_of(pairs):
    return sorted({owner for owner, kind in pairs})


def cuts_of(apex, pairs):
    return sorted(owner for owner, kind in pairs if kind == "server" and lies_below(owner, apex))


def follows_rules(apex, pairs):
    """Point 13, rule by rule."""
    cuts = cuts_of(apex, pairs)
    for owner, kind in pairs:
        if not lies_in(owner, apex):
            return False
        if kind == "alias" and (owner == apex or any(
                other == owner and other_kind != "alias" for other, other_kind in pairs)):
            return False
        if kind == "server" and owner[-1:] == ("*",):
            return False
        if owner in cuts and kind not in ("server", "link", "address"):
            return False
        if kind != "address" and any(lies_below(owner, cut) for cut in cuts):
            return False
        if kind == "link" and owner not in cuts:
            return False
    return True


def proper_owners(apex, pairs):
    """Point 14."""
    cuts = cuts_of(apex, pairs)
    return sorted({apex} | {
        owner for owner, kind in pairs if not any(lies_below(owner, cut) for cut in cuts)})


def exists(apex, pairs, name):
    """Point 14."""
    return lies_in(name, apex) and any(
        lies_in(owner, name) for owner in proper_owners(apex, pairs))


def in_order(table):
    """The record sets in the order of point 9."""
    return [table[pair] for pair in sorted(table, key=lambda pair: (pair[0], KINDS.index(pair[1])))]


def edition_table(apex, quiet, table, number, keys):
    """The record sets of an edition, points 16 and 17."""
    made = dict(table)
    made[apex, "start"] = (apex, "start", quiet, ((number, quiet),))
    if keys:
        cuts = cuts_of(apex, table)
        owners = proper_owners(apex, table)
        made[apex, "key"] = (apex, "key", quiet, tuple(sorted(set(keys))))
        gaps = {}
        for place, owner in enumerate(owners):
            following = owners[place + 1] if place + 1 < len(owners) else apex
            kinds = {kind for other, kind in made if other == owner} | {"gap"}
            if owner in cuts:
                kinds &= {"server", "link", "gap"}
            kinds = tuple(kind for kind in KINDS if kind in kinds)
            gaps[owner, "gap"] = (owner, "gap", quiet, ((following, kinds),))
        made.update(gaps)
    return made


def found_at(made, owner, kind):
    if (owner, kind) in made:
        return ("data",) + made[owner, kind][2:]
    if (owner, "alias") in made:
        return ("alias", made[owner, "alias"][2], made[owner, "alias"][3][0])
    return ("nodata",)


def source_of(apex, made, name):
    """The source of a name that does not exist, point 19."""
    pairs = [pair for pair in made if pair[1] != "gap"]
    length = max(k for k in range(len(name) + 1) if exists(apex, pairs, name[:k]))
    return name[:length] + ("*",)


def outcome(apex, made, name, kind):
    """Point 19; the second item tells by which of its lines."""
    pairs = [pair for pair in made if pair[1] != "gap"]
    if not lies_in(name, apex) or (kind == "link" and name == apex):
        return ("outside",), 1
    for cut in cuts_of(apex, pairs):
        if lies_below(name, cut) or (name == cut and kind != "link"):
            return ("referral", cut), 2
    if exists(apex, pairs, name):
        return found_at(made, name, kind), 3
    source = source_of(apex, made, name)
    if source in proper_owners(apex, pairs):
        return found_at(made, source, kind), 4
    return ("noname",), 5


def gap_over(apex, made, name):
    """Point 20: the pair of the gap set."""
    pairs = [pair for pair in made if pair[1] != "gap"]
    return (max(owner for owner in proper_owners(apex, pairs) if owner <= name), "gap")


def evidence(apex, made, name, kind):
    """Point 20: the record sets of the evidence."""
    found, line = outcome(apex, made, name, kind)
    if line == 1:
        return []
    if line == 2:
        cut = found[1]
        pairs = [(cut, "server"), (cut, "link") if (cut, "link") in made else (cut, "gap")]
        pairs += [(server, "address") for server in made[cut, "server"][3]]
    elif line == 3 and found[0] == "nodata":
        pairs = [(apex, "start"), gap_over(apex, made, name)]
    elif line == 3:
        pairs = [(name, kind if found[0] == "data" else "alias")]
    else:
        source = source_of(apex, made, name)
        over = gap_over(apex, made, name)
        if line == 5:
            pairs = [(apex, "start"), over, gap_over(apex, made, source)]
        elif found[0] == "nodata":
            pairs = [(apex, "start"), over, (source, "gap")]
        else:
            pairs = [(source, kind if found[0] == "data" else "alias"), over]
    return [made[pair] for place, pair in enumerate(pairs)
            if pair in made and pair not in pairs[:place]]
