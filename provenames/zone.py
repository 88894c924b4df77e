"""Zones: the record sets below an apex, which always follow the rules for zones."""

from provenames.errors import BadName, BadRecord, Unknown, ZoneConflict
from provenames.names import ancestors, is_name, is_wildcard, lies_below, lies_in
from provenames.order import count_before, order_of
from provenames.records import KINDS, is_word, make_set

# Only editions contain these.
EDITION_KINDS = ("start", "key", "gap")
KINDS_OF_CUTS = ("server", "link", "address")
KINDS_BELOW_CUTS = ("address",)


def has_only(kinds, allowed):
    """Tell whether all the kinds are among the allowed ones."""
    return all([kind in allowed for kind in kinds])


class Zone:
    """A zone with its apex, its quiet time and its record sets."""

    def __init__(self, apex, quiet):
        if not is_name(apex):
            raise BadName("the apex of a zone is not a name")
        if is_wildcard(apex):
            raise BadName("the apex of a zone is a wildcard")
        if not is_word(quiet):
            raise BadRecord(f"this quiet time is not a word: {quiet}")
        self.apex = apex
        self.quiet = quiet
        # The record sets in order, what they are ordered by, and each one by its owner and kind.
        self._sets = []
        self._order = []
        self._table = {}

    def put(self, name, kind, ttl, values):
        """Add a record set, in place of the one with the same owner and kind if there is one.

        Raises BadName, BadRecord or ZoneConflict if that is not possible.
        """
        record_set = make_set(name, kind, ttl, values)
        if kind in EDITION_KINDS:
            raise BadRecord(f"a zone contains no record set of the kind {kind}")
        kinds = [other for other in KINDS if other == kind or (name, other) in self._table]
        self._check(name, kinds)
        order = order_of(record_set)
        place = count_before(self._order, order)
        behind = place + 1 if (name, kind) in self._table else place
        # A new list, so that an iteration that goes on meanwhile is not disturbed.
        self._sets = self._sets[:place] + [record_set] + self._sets[behind:]
        self._order[place:behind] = [order]
        self._table[name, kind] = record_set

    def drop(self, name, kind):
        """Remove a record set; raise Unknown if there is none, ZoneConflict if it must stay."""
        if (name, kind) not in self._table:
            raise Unknown(f"there is no record set of this owner and the kind {kind}")
        kinds = [other for other in KINDS if other != kind and (name, other) in self._table]
        self._check(name, kinds)
        place = count_before(self._order, order_of(self._table[name, kind]))
        self._sets = self._sets[:place] + self._sets[place + 1:]
        del self._order[place]
        del self._table[name, kind]

    def at(self, name, kind):
        """Return the record set with this owner and kind, or None."""
        return self._table.get((name, kind))

    def cuts(self):
        """Return the list of the cuts in ascending order."""
        servers = [record_set[0] for record_set in self._sets if record_set[1] == "server"]
        return [owner for owner in servers if owner != self.apex]

    def owners(self):
        """Return the list of the proper owners in ascending order."""
        # All owners lie in the apex, so none comes before it.
        found = [self.apex]
        for record_set in self._sets:
            owner = record_set[0]
            if owner != found[-1] and not self._is_below_cut(owner):
                found.append(owner)
        return found

    def __contains__(self, x):
        """Tell whether there is a record set with the owner and the kind in the tuple."""
        return x in self._table

    def __iter__(self):
        """Give the record sets in order."""
        return iter(self._sets)

    def _check(self, owner, kinds):
        """Raise ZoneConflict if the zone breaks a rule once the owner owns just these kinds."""
        # A call changes the kinds of one owner, so a rule can break only there or below it.
        is_cut = "server" in kinds and owner != self.apex
        if not lies_in(owner, self.apex):
            raise ZoneConflict("an owner does not lie in the apex")
        if "alias" in kinds and len(kinds) > 1:
            raise ZoneConflict("an owner of an alias owns another record set")
        if "alias" in kinds and owner == self.apex:
            raise ZoneConflict("the apex owns an alias")
        if "server" in kinds and is_wildcard(owner):
            raise ZoneConflict("a wildcard owns a server")
        if is_cut and not has_only(kinds, KINDS_OF_CUTS):
            raise ZoneConflict("a cut owns more than servers, links and addresses")
        if is_cut and not has_only(self._kinds_below(owner), KINDS_BELOW_CUTS):
            raise ZoneConflict("an owner below a new cut owns more than addresses")
        if not has_only(kinds, KINDS_BELOW_CUTS) and self._is_below_cut(owner):
            raise ZoneConflict("an owner below a cut owns more than addresses")
        if "link" in kinds and not is_cut:
            raise ZoneConflict("an owner of a link is not a cut")

    def _kinds_below(self, name):
        """Return the kinds of the record sets whose owners lie below the name."""
        kinds = []
        # The names below a name follow it directly in the order of names.
        first = count_before(self._order, (name, len(KINDS)))
        for owner, place in self._order[first:]:
            if not lies_below(owner, name):
                break
            kinds.append(KINDS[place])
        return kinds

    def _is_below_cut(self, name):
        """Tell whether the name lies below a cut."""
        for above in ancestors(name):
            if above != self.apex and above != name and (above, "server") in self._table:
                return True
        return False
