"""Servers: they answer questions from the editions that they hold."""

from provenames.errors import BadOctets, Unknown
from provenames.lookup import evidence, outcome
from provenames.messages import read_question, write_reply

REFUSED = ("refused", ())


class Server:
    """A server with at most one edition for each apex."""

    def __init__(self):
        self._editions = {}

    def hold(self, edition):
        """Hold the edition, in place of the one with the same apex if there is one."""
        self._editions[edition.apex] = edition

    def release(self, apex):
        """Stop holding the edition with this apex; raise Unknown if there is none."""
        if apex not in self._editions:
            raise Unknown("the server holds no edition with this apex")
        del self._editions[apex]

    def reply(self, zone, name, kind):
        """Return the reply to the question in the zone."""
        edition = self._editions.get(zone)
        if edition is None:
            return REFUSED
        found = outcome(edition, name, kind)
        if found[0] == "outside":
            return REFUSED
        return (found[0], tuple(evidence(edition, name, kind)))

    def answer(self, octets):
        """Return the octets of the reply to the question that the octets are."""
        try:
            zone, name, kind = read_question(octets)
        except BadOctets:
            return write_reply(REFUSED)
        return write_reply(self.reply(zone, name, kind))
