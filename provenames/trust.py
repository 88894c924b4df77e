"""Trust: the keys that are trusted at a time, and the record sets that are signed with them."""

from provenames.names import lies_in
from provenames.rules import plain_conclusions
from provenames.signatures import is_valid


class Trust:
    """What is derivable from signed sets and is no answer, each fact with one step.

    The steps are numbered in the order in which they were found, and the number of a step is its
    place. Their premises are places, which are less than their own.
    """

    def __init__(self, notary, anchors, time):
        self._notary = notary
        self._time = time
        self._steps = []
        self._places = {}
        # The steps before this place have been used as premises.
        self._used = 0
        # For each zone and key the valid signings: pairs of an edition and a signed set.
        self._signings = {}
        # The places of the sets of each owner, and those of the gap sets of each zone and edition.
        self._owned = {}
        self._gaps = {}
        for zone, key in anchors:
            self._conclude(("anchor", ("key", zone, key), (), None))

    def learn(self, signed_set):
        """Find what is derivable with this signed set, too."""
        record_set, signatures = signed_set
        for signature in signatures:
            zone, key, edition = signature[:3]
            if lies_in(record_set[0], zone) and is_valid(self._notary, signature, record_set, self._time):
                self._signings.setdefault((zone, key), []).append((edition, signed_set))
                place = self._places.get(("key", zone, key))
                if place is not None:
                    self._conclude(("signature", ("set", zone, edition, record_set), (place,), signed_set))
        self._use_steps()

    def knows(self, fact):
        """Tell whether the fact is derivable."""
        return fact in self._places

    def facts(self):
        """Return the list of the facts, each at its place."""
        return [step[1] for step in self._steps]

    def fact_at(self, place):
        """Return the fact of the step at the place."""
        return self._steps[place][1]

    def sets_of(self, owner):
        """Return the list of the places of the sets that the owner owns."""
        return list(self._owned.get(owner, []))

    def gap_groups(self):
        """Return the lists of the places of gap sets, one for each zone and edition."""
        return [list(places) for places in self._gaps.values()]

    def derivation_of(self, place):
        """Return a derivation that ends with the fact of the step at the place."""
        return self.derivation(self._steps[place])

    def derivation(self, last):
        """Return a derivation that ends with the last step, the premises of which are places."""
        needed = {}
        ahead = list(last[2])
        while ahead:
            place = ahead.pop()
            if place not in needed:
                needed[place] = True
                ahead.extend(self._steps[place][2])
        places = sorted(needed)
        indexes = {place: index for index, place in enumerate(places)}
        derivation = []
        for rule, fact, premises, signed_set in [self._steps[place] for place in places] + [last]:
            renumbered = tuple([indexes[premise] for premise in premises])
            derivation.append((rule, fact, renumbered, signed_set))
        return derivation

    def _conclude(self, step):
        """Keep the step, if its fact is new."""
        fact = step[1]
        if fact in self._places:
            return
        place = len(self._steps)
        self._steps.append(step)
        self._places[fact] = place
        if fact[0] == "set":
            zone, edition, record_set = fact[1:]
            self._owned.setdefault(record_set[0], []).append(place)
            if record_set[1] == "gap":
                self._gaps.setdefault((zone, edition), []).append(place)

    def _use_steps(self):
        """Conclude all that follows from steps that have not been used so far."""
        # Not by recursion, because a key may lead to a key in a chain of any length.
        while self._used < len(self._steps):
            place = self._used
            self._used += 1
            fact = self._steps[place][1]
            if fact[0] == "key":
                self._use_key(place, fact)
            if fact[0] == "set":
                self._use_set(place, fact)

    def _use_key(self, place, fact):
        """Conclude what the trusted key at the place has signed."""
        zone, key = fact[1:]
        for edition, signed_set in self._signings.get((zone, key), []):
            self._conclude(("signature", ("set", zone, edition, signed_set[0]), (place,), signed_set))

    def _use_set(self, place, fact):
        """Conclude what follows from the set at the place alone."""
        for rule, conclusion in plain_conclusions(fact[1], fact[3]):
            self._conclude((rule, conclusion, (place,), None))


def trust_in(notary, anchors, time, signed_sets):
    """Return the trust that these signed sets give."""
    trust = Trust(notary, anchors, time)
    for signed_set in signed_sets:
        trust.learn(signed_set)
    return trust
