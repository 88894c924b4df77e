"""The rounds of a resolving: each one resolves one question."""

from provenames.claims import claimed_outcome, is_beyond_cut, referred_cut
from provenames.errors import BadOctets
from provenames.messages import read_reply, write_question
from provenames.names import ancestors, lies_in
from provenames.search import answering_steps
from provenames.trust import trust_in


class Rounds:
    """What the rounds of one resolving share: a time, what is known then, and the questions sent."""

    def __init__(self, notary, network, received, *, anchors, roots, time):
        self.asked = 0
        self._network = network
        self._received = received
        self._anchors = list(anchors)
        self._roots = list(roots)
        self._time = time
        # What is received now lives at this time, so the trust need only learn what comes in.
        self._trust = trust_in(notary, anchors, time, received.live(time))

    def resolve(self, name, kind):
        """Resolve the question in a round; return its outcome, its verdict and a derivation.

        The outcome is None if there is none, and the derivation is None if it is not secure.
        """
        found = self._secure(name, kind)
        zone = ()
        addresses = list(self._roots)
        claimed = False
        while found is None and addresses:
            found, reply = self._ask_both(addresses.pop(0), zone, name, kind)
            if found is not None or reply is None:
                continue
            referred = referred_cut(reply, zone, name, kind)
            outcome = claimed_outcome(reply, name, kind)
            if referred is not None:
                zone, addresses = referred
            elif outcome is not None:
                claimed = True
                if self._is_unprotected(name, kind):
                    found = (outcome, "insecure", None)
        if found is not None:
            return found
        return (None, "bogus" if claimed else "failed", None)

    def _secure(self, name, kind):
        """Return the end of a round with the first answer to the question, or None."""
        steps = answering_steps(self._trust, name, kind)
        if not steps:
            return None
        return (steps[0][1][3], "secure", self._trust.derivation(steps[0]))

    def _ask_both(self, address, zone, name, kind):
        """Ask the address for the keys of the zone and then the question.

        Returns the end of the round if there is an answer then, and the reply to the question;
        each one is None if there is none.
        """
        if not self._has_keys(zone):
            self._ask(address, zone, zone, "key")
            found = self._secure(name, kind)
            if found is not None:
                return (found, None)
        reply = self._ask(address, zone, name, kind)
        return (self._secure(name, kind), reply)

    def _has_keys(self, zone):
        """Tell whether the question for the keys of the zone is answered with data."""
        steps = answering_steps(self._trust, zone, "key")
        return any([step[1][3][0] == "data" for step in steps])

    def _ask(self, address, zone, name, kind):
        """Ask the address the question in the zone, receive what comes, and return the reply."""
        self.asked += 1
        octets = self._network.send(address, write_question(zone, name, kind))
        if octets is None:
            return None
        try:
            reply = read_reply(octets)
        except BadOctets:
            return None
        for signed_set in reply[1]:
            self._received.take(signed_set, self._time)
            self._trust.learn(signed_set)
        return reply

    def _is_unprotected(self, name, kind):
        """Tell whether nothing that is trusted has to answer the question."""
        if not any([lies_in(name, anchor[0]) for anchor in self._anchors]):
            return True
        for cut in ancestors(name):
            if is_beyond_cut(name, kind, cut) and self._trust.knows(("unlinked", cut)):
                return True
        return False
