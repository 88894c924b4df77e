"""The publication desk: it accepts editions that fit together."""

from provenames.errors import DeskConflict
from provenames.names import ancestors


class Desk:
    """A desk with trust anchors and the editions that it accepted."""

    def __init__(self, anchors):
        self._anchors = list(anchors)
        # The accepted editions of each apex.
        self._accepted = {}

    def accept(self, edition):
        """Accept the edition; raise DeskConflict if it does not fit."""
        self._check_zone(edition)
        self._check_anchors(edition)
        self._check_above(edition)
        self._check_below(edition)
        self._accepted.setdefault(edition.apex, []).append(edition)

    def running(self, zone, time):
        """Return the list of the accepted editions of the zone that are running at the time."""
        found = [edition for edition in self._accepted.get(zone, []) if edition.is_running(time)]
        return sorted(found, key=lambda edition: edition.number)

    def _check_zone(self, edition):
        """Raise DeskConflict if the edition does not fit to accepted ones of its zone."""
        for accepted in self._accepted.get(edition.apex, []):
            if accepted.number == edition.number:
                raise DeskConflict(f"the zone has an edition with the number {edition.number}")
        for accepted in self._overlapping(edition.apex, edition):
            if edition.signed and accepted.signed and not know_each_other(edition, accepted):
                raise DeskConflict("the signers of an edition have no key in another one")

    def _check_anchors(self, edition):
        """Raise DeskConflict if the zone has trust anchors and no head fits to them."""
        keys = [anchor[1] for anchor in self._anchors if anchor[0] == edition.apex]
        if keys and not have_common(edition.head_keys, keys):
            raise DeskConflict("no head of the edition has the key of a trust anchor")

    def _check_above(self, edition):
        """Raise DeskConflict if the edition does not fit to a link of an accepted edition."""
        # Only a zone above has links to this one.
        for above in ancestors(edition.apex):
            for accepted in self._overlapping(above, edition):
                check_link(accepted.at(edition.apex, "link"), edition)

    def _check_below(self, edition):
        """Raise DeskConflict if an accepted edition does not fit to a link of the edition."""
        for signed_set in edition:
            if signed_set[0][1] == "link":
                for accepted in self._overlapping(signed_set[0][0], edition):
                    check_link(signed_set, accepted)

    def _overlapping(self, apex, edition):
        """Return the accepted editions with this apex that overlap the edition."""
        return [accepted for accepted in self._accepted.get(apex, [])
                if accepted.start <= edition.end and edition.start <= accepted.end]


def have_common(keys, others):
    """Tell whether one of the keys is among the others."""
    return any([key in others for key in keys])


def know_each_other(edition, accepted):
    """Tell whether each of two editions of a zone has a key of the signers of the other one."""
    return (have_common(edition.signer_keys, accepted.all_keys)
            and have_common(accepted.signer_keys, edition.all_keys))


def check_link(link_set, edition):
    """Raise DeskConflict if there is a link set and no head of the edition fits to it."""
    if link_set is not None and not have_common(edition.head_keys, link_set[0][3]):
        raise DeskConflict("no head of an edition is named by the link to its zone")
