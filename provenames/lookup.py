"""The outcomes of questions in an edition, and the evidence for them.

A question is a name and a kind other than a gap.
"""

from provenames.names import STAR_LABEL, ancestors, lies_in
from provenames.order import count_before


def outcome(edition, name, kind):
    """Return the outcome of the question in the edition, a tuple."""
    if not lies_in(name, edition.apex) or (kind == "link" and name == edition.apex):
        return ("outside",)
    cut = cut_over(edition, name, kind)
    if cut is not None:
        return ("referral", cut)
    owners = edition.owners()
    answering = answering_name(owners, name)
    if not exists(owners, answering):
        return ("noname",)
    return outcome_at(edition, answering, kind)


def gap_over(edition, name):
    """Return the signed set with the gap set over the name, which lies in the apex.

    Returns None if the edition is not signed.
    """
    owners = edition.owners()
    place = count_before(owners, name)
    if place == len(owners) or owners[place] != name:
        place -= 1
    return edition.at(owners[place], "gap")


def evidence(edition, name, kind):
    """Return the list of the signed sets that are the evidence for the question."""
    found = outcome(edition, name, kind)
    if found[0] == "outside":
        return []
    if found[0] == "referral":
        return present(referral_sets(edition, found[1]))
    over = gap_over(edition, name)
    answering = answering_name(edition.owners(), name)
    if found[0] in ("data", "alias"):
        data = edition.at(answering, kind if found[0] == "data" else "alias")
        return present([data] if answering == name else [data, over])
    # The gap set over a source that answers is its own; that over the name stands there already.
    return present([edition.at(edition.apex, "start"), over, gap_over(edition, answering)])


def cut_over(edition, name, kind):
    """Return the cut to which the question is referred, or None."""
    for above in ancestors(name):
        if above != edition.apex and edition.at(above, "server") is not None:
            # The link set of a cut stands above the cut, so that question is answered here.
            if kind != "link" or above != name:
                return above
    return None


def exists(owners, name):
    """Tell whether one of the proper owners, which are in ascending order, lies in the name."""
    # The names that lie in a name begin with the first one that does not come before it.
    place = count_before(owners, name)
    return place < len(owners) and lies_in(owners[place], name)


def answering_name(owners, name):
    """Return the name if it exists, otherwise its source."""
    if exists(owners, name):
        return name
    encloser = ()
    for above in ancestors(name):
        if exists(owners, above):
            encloser = above
    # Not by star: below an owner of twelve labels a question may stand, and no owner answers it.
    return encloser + (STAR_LABEL,)


def outcome_at(edition, owner, kind):
    """Return the outcome by the record sets of the owner."""
    data = edition.at(owner, kind)
    if data is not None:
        return ("data", data[0][2], data[0][3])
    alias = edition.at(owner, "alias")
    if alias is not None:
        return ("alias", alias[0][2], alias[0][3][0])
    return ("nodata",)


def referral_sets(edition, cut):
    """Return the evidence for a referral to the cut, with None for what there is not."""
    server_set = edition.at(cut, "server")
    link_set = edition.at(cut, "link")
    found = [server_set, edition.at(cut, "gap") if link_set is None else link_set]
    for server in server_set[0][3]:
        found.append(edition.at(server, "address"))
    return found


def present(signed_sets):
    """Return the signed sets that there are, each one once."""
    kept = []
    for signed_set in signed_sets:
        if signed_set is not None and signed_set not in kept:
            kept.append(signed_set)
    return kept
