"""Editions: signed copies of zones."""

from provenames.errors import BadEdition
from provenames.names import ancestors
from provenames.order import order_of
from provenames.records import KINDS, is_word, make_set
from provenames.signatures import sign_set

MOST_SIGNERS = 20
MOST_KEYS = 100
GAP_KINDS_OF_CUTS = ("server", "link", "gap")


def publish(zone, *, number, heads, signers, extra, start, end):
    """Return a new edition of the zone; raise BadEdition if it cannot be published."""
    check_numbers([number, start, end] + extra)
    if start > end:
        raise BadEdition("the end of an edition comes before its start")
    different_heads = each_once(heads)
    different_signers = each_once(signers)
    check_signers(different_heads, different_signers, extra)
    head_keys = keys_of(different_heads)
    signer_keys = keys_of(different_signers)
    all_keys = tuple(sorted(set(head_keys + signer_keys + tuple(extra))))
    if len(all_keys) > MOST_KEYS:
        raise BadEdition(f"an edition has at most {MOST_KEYS} keys")
    signed_sets = []
    for record_set in edition_sets(zone, number, all_keys):
        signatures = []
        for signer in signers_for(zone, record_set, different_heads, different_signers):
            signatures.append(sign_set(
                signer, record_set, zone=zone.apex, edition=number, start=start, end=end))
        signed_sets.append((record_set, tuple(signatures)))
    return Edition(zone, (number, start, end), (head_keys, signer_keys, all_keys), signed_sets)


def check_numbers(numbers):
    """Raise BadEdition if one of the numbers is not a word."""
    for number in numbers:
        if not is_word(number):
            raise BadEdition(f"this is not a word: {number}")


def each_once(signers):
    """Return the signers, each one once, in ascending order of their keys."""
    by_key = {signer.key: signer for signer in signers}
    return [by_key[key] for key in sorted(by_key)]


def check_signers(heads, signers, extra):
    """Raise BadEdition if no edition has these heads, signers and extra keys."""
    if heads and not signers:
        raise BadEdition("an edition with heads has no signers")
    if signers and not heads:
        raise BadEdition("an edition with signers has no heads")
    if extra and not heads:
        raise BadEdition("an edition with extra keys has no heads")
    if len(heads) > MOST_SIGNERS:
        raise BadEdition(f"an edition has at most {MOST_SIGNERS} heads")
    if len(signers) > MOST_SIGNERS:
        raise BadEdition(f"an edition has at most {MOST_SIGNERS} signers")


def keys_of(signers):
    """Return the tuple of the keys of the signers."""
    return tuple([signer.key for signer in signers])


def edition_sets(zone, number, keys):
    """Return the record sets of an edition in order; it is signed if it has keys."""
    record_sets = list(zone)
    record_sets.append(make_set(zone.apex, "start", zone.quiet, [(number, zone.quiet)]))
    if keys:
        record_sets.append(make_set(zone.apex, "key", zone.quiet, list(keys)))
        record_sets = record_sets + gap_sets(zone, record_sets)
    return sorted(record_sets, key=order_of)


def gap_sets(zone, record_sets):
    """Return the gap sets of an edition that contains the other record sets."""
    owned = {(record_set[0], record_set[1]): True for record_set in record_sets}
    cuts = {cut: True for cut in zone.cuts()}
    owners = zone.owners()
    found = []
    for owner, following in zip(owners, owners[1:] + owners[:1]):
        shown = GAP_KINDS_OF_CUTS if owner in cuts else KINDS
        kinds = tuple([kind for kind in shown if kind == "gap" or (owner, kind) in owned])
        found.append(make_set(owner, "gap", zone.quiet, [(following, kinds)]))
    return found


def signers_for(zone, record_set, heads, signers):
    """Return those of the heads and signers that sign the record set."""
    owner = record_set[0]
    kind = record_set[1]
    if kind == "key":
        return heads
    if kind == "server" and owner != zone.apex:
        return []
    if kind == "address" and lies_in_cut(zone, owner):
        return []
    return signers


def lies_in_cut(zone, name):
    """Tell whether the name lies in a cut of the zone."""
    for above in ancestors(name):
        if above != zone.apex and (above, "server") in zone:
            return True
    return False


class Edition:
    """An edition of a zone; only publish creates one."""

    def __init__(self, zone, term, keys, signed_sets):
        number, start, end = term
        head_keys, signer_keys, all_keys = keys
        self.apex = zone.apex
        self.number = number
        self.start = start
        self.end = end
        self.head_keys = head_keys
        self.signer_keys = signer_keys
        self.all_keys = all_keys
        self._cuts = zone.cuts()
        self._owners = zone.owners()
        self._sets = list(signed_sets)
        self._table = {(signed[0][0], signed[0][1]): signed for signed in signed_sets}

    @property
    def signed(self):
        """True if the edition is signed, otherwise False."""
        return len(self.all_keys) > 0

    def is_running(self, time):
        """Tell whether the edition is running at the time."""
        return self.start <= time <= self.end

    def at(self, name, kind):
        """Return the signed set with this owner and kind, or None."""
        return self._table.get((name, kind))

    def cuts(self):
        """Return the list of the cuts in ascending order."""
        return list(self._cuts)

    def owners(self):
        """Return the list of the proper owners in ascending order."""
        return list(self._owners)

    def __iter__(self):
        """Give the signed sets in order."""
        return iter(self._sets)
