"""Derivations: the rules by which the facts of steps follow from the facts of earlier steps.

The record sets of a derivation belong to an edition of a zone. A rule that gives an answer is here
a function that returns the outcome that it gives for a question, or None if it gives none.
"""

from provenames.errors import BadName
from provenames.names import lies_below, lies_in, shared, star
from provenames.signatures import is_valid


def covers(zone, gap_set, name):
    """Tell whether the gap set, which is of the zone, covers the name."""
    owner = gap_set[0]
    following, kinds = gap_set[3][0]
    if not lies_below(name, zone) or name <= owner:
        return False
    if following != zone and name >= following:
        return False
    # The names below a cut are those of another zone, so the gap set of a cut tells nothing of them.
    return owner == zone or "server" not in kinds or not lies_below(name, owner)


def clears(zone, gap_set, name):
    """Tell whether the gap set, which is of the zone, clears the name."""
    return covers(zone, gap_set, name) and not lies_below(following_of(gap_set), name)


def source(gap_set, name):
    """Return the source by the gap of a name that the gap set clears in some zone.

    Returns None if the encloser has no star, which only names beyond the limit of labels lead to.
    """
    encloser = max(shared(name, gap_set[0]), shared(name, following_of(gap_set)), key=len)
    try:
        return star(encloser)
    except BadName:
        return None


def following_of(gap_set):
    """Return the next proper owner by the gap set."""
    return gap_set[3][0][0]


def kinds_of(gap_set):
    """Return the kinds in the gap set."""
    return gap_set[3][0][1]


def is_answerable(zone, name, kind):
    """Tell whether a rule may answer the question from sets of the zone."""
    # The links of an apex stand in the zone above it.
    return kind != "gap" and not (kind == "link" and name == zone)


def by_data(zone, record_set, name, kind):
    """Answer with the values of the set of this kind."""
    if record_set[:2] != (name, kind):
        return None
    return ("data", record_set[2], record_set[3])


def by_alias(zone, record_set, name, kind):
    """Answer with the target of the alias."""
    if kind == "alias" or record_set[:2] != (name, "alias"):
        return None
    return ("alias", record_set[2], record_set[3][0])


def by_nokind(zone, record_set, name, kind):
    """Answer that the owner of the gap set owns no set of the kind."""
    if by_wildnokind(zone, record_set, name, kind) is None:
        return None
    # Of a cut only the links are told by the zone above it.
    if "server" in kinds_of(record_set) and name != zone and kind != "link":
        return None
    return ("nodata",)


def by_empty(zone, record_set, name, kind):
    """Answer that the name owns nothing, but an owner lies below it."""
    if record_set[1] != "gap" or not covers(zone, record_set, name):
        return None
    return ("nodata",) if lies_below(following_of(record_set), name) else None


def by_noname(zone, record_set, name, kind):
    """Answer that the name, which is a source, is no owner."""
    if record_set[1] != "gap" or not covers(zone, record_set, name):
        return None
    return ("noname",)


def by_wildnokind(zone, record_set, name, kind):
    """Answer that the name, which is a source, owns no set of the kind."""
    if record_set[:2] != (name, "gap"):
        return None
    kinds = kinds_of(record_set)
    return None if kind in kinds or "alias" in kinds else ("nodata",)


# The rules with one premise that give an answer.
ANSWERS_BY_ONE = {"data": by_data, "alias": by_alias, "nokind": by_nokind, "empty": by_empty}
# Those with two premises. The first one clears the name; these take the second one and the source.
ANSWERS_BY_TWO = {
    "noname": by_noname, "wilddata": by_data, "wildalias": by_alias, "wildnokind": by_wildnokind,
}
MANY_PREMISES = {
    "anchor": 0, "signature": 1, "keys": 1, "link": 1, "data": 1, "alias": 1, "nokind": 1, "empty": 1,
    "noname": 2, "wilddata": 2, "wildalias": 2, "wildnokind": 2, "unlinked": 1,
}


def source_if_clear(zone, record_set, name):
    """Return the source by the record set if that is a gap set that clears the name, or None."""
    if record_set[1] != "gap" or not clears(zone, record_set, name):
        return None
    return source(record_set, name)


def plain_conclusions(zone, record_set):
    """Return what follows from the record set alone and is no answer: pairs of rules and facts."""
    owner, kind, _, values = record_set
    if kind == "key" and owner == zone:
        return [("keys", ("key", zone, key)) for key in values]
    if kind == "link" and lies_below(owner, zone):
        return [("link", ("key", owner, key)) for key in values]
    if kind == "gap" and lies_below(owner, zone):
        kinds = kinds_of(record_set)
        if "server" in kinds and "link" not in kinds:
            return [("unlinked", ("unlinked", owner))]
    return []


def follows(notary, anchors, time, facts, step):
    """Tell whether the step follows by its rule from the facts of the steps before it."""
    rule, fact, premises, signed_set = step
    if len(premises) != MANY_PREMISES.get(rule):
        return False
    if (rule == "signature") != (signed_set is not None):
        return False
    for index in premises:
        if not 0 <= index < len(facts):
            return False
    used = [facts[index] for index in premises]
    if rule == "anchor":
        return fact[0] == "key" and fact[1:] in anchors
    if rule == "signature":
        return follows_signature(notary, time, used[0], fact, signed_set)
    if not all([premise[0] == "set" for premise in used]):
        return False
    if fact[0] == "answer":
        return follows_answer(rule, used, fact)
    return (rule, fact) in plain_conclusions(used[0][1], used[0][3])


def follows_signature(notary, time, premise, fact, signed_set):
    """Tell whether the fact follows from the premise by a signature of the signed set."""
    if premise[0] != "key" or fact[0] != "set":
        return False
    zone, edition, record_set = fact[1:]
    if zone != premise[1] or record_set != signed_set[0] or not lies_in(record_set[0], zone):
        return False
    for signature in signed_set[1]:
        if signature[:3] == (zone, premise[2], edition):
            if is_valid(notary, signature, record_set, time):
                return True
    return False


def follows_answer(rule, used, fact):
    """Tell whether the answer follows by the rule from the premises, which are sets."""
    name, kind, outcome = fact[1:]
    zone = used[0][1]
    record_set = used[0][3]
    if not is_answerable(zone, name, kind):
        return False
    if rule in ANSWERS_BY_ONE:
        answer = ANSWERS_BY_ONE[rule]
        return answer(zone, record_set, name, kind) == outcome
    if rule not in ANSWERS_BY_TWO or used[0][1:3] != used[1][1:3]:
        return False
    origin = source_if_clear(zone, record_set, name)
    if origin is None:
        return False
    answer = ANSWERS_BY_TWO[rule]
    return answer(zone, used[1][3], origin, kind) == outcome
