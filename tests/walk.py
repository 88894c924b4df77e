"""A plain restatement of points 31 to 37 for comparisons.

It keeps what was received as a list, and derives everything anew for each question.
"""

from provenames.errors import BadOctets
from provenames.messages import read_reply, write_question
from tests import derive
from tests.model import lies_below, lies_in


class Walker:
    def __init__(self, notary, network, anchors, roots):
        self.notary, self.network, self.anchors, self.roots = notary, network, anchors, roots
        self.received = []
        self.asked = 0

    def live(self, time):
        """Point 31."""
        return [signed_set for signed_set, end in self.received if end >= time]

    def answers(self, name, kind, time):
        return derive.answers(self.notary, self.anchors, time, self.live(time), name, kind)

    def ask(self, address, zone, name, kind, time):
        """Point 32."""
        self.asked += 1
        octets = self.network.send(address, write_question(zone, name, kind))
        try:
            reply = None if octets is None else read_reply(octets)
        except BadOctets:
            reply = None
        for signed_set in reply[1] if reply else ():
            if signed_set[1]:
                end = time + signed_set[0][2]
                for entry in self.received:
                    if entry[0] == signed_set:
                        entry[1] = max(entry[1], end)
                        break
                else:
                    self.received.append([signed_set, end])
        return reply

    def claim(self, reply, name, kind):
        """Point 33."""
        code, signed_sets = reply
        stars = [name[:k] + ("*",) for k in range(len(name))]
        first = signed_sets[0][0] if signed_sets else ((), None, 0, ())
        fitting = first[0] == name or first[0] in stars
        if code == "data" and first[1] == kind and fitting:
            return ("data",) + first[2:]
        if code == "alias" and first[1] == "alias" and kind != "alias" and fitting:
            return ("alias", first[2], first[3][0])
        return (code,) if code in ("nodata", "noname") else None

    def refer(self, reply, zone, name, kind):
        """Point 34."""
        code, signed_sets = reply
        if code != "referral" or not signed_sets or signed_sets[0][0][1] != "server":
            return None
        cut, servers = signed_sets[0][0][0], signed_sets[0][0][3]
        inside = lies_below(name, cut) if kind == "link" else lies_in(name, cut)
        addresses = []
        for (owner, set_kind, _, values), _ in signed_sets:
            if set_kind == "address" and owner in servers:
                addresses += [address for address in values if address not in addresses]
        return (cut, addresses[:8]) if inside and lies_below(cut, zone) and addresses else None

    def unprotected(self, name, kind, time):
        """Point 35."""
        if all(not lies_in(name, zone) for zone, _ in self.anchors):
            return True
        cuts = derive.unlinked(self.notary, self.anchors, time, self.live(time))
        return any(lies_below(name, cut) if kind == "link" else lies_in(name, cut) for cut in cuts)

    def round(self, name, kind, time):
        """Point 36: the outcome and the verdict."""
        if self.answers(name, kind, time):
            return self.answers(name, kind, time)[0], "secure"
        zone, addresses, place, verdict = (), self.roots, 0, "failed"
        while place < len(addresses):
            address = addresses[place]
            if not any(outcome[0] == "data" for outcome in self.answers(zone, "key", time)):
                self.ask(address, zone, zone, "key", time)
            if self.answers(name, kind, time):
                return self.answers(name, kind, time)[0], "secure"
            reply = self.ask(address, zone, name, kind, time)
            if self.answers(name, kind, time):
                return self.answers(name, kind, time)[0], "secure"
            place += 1
            if reply and self.refer(reply, zone, name, kind):
                zone, addresses = self.refer(reply, zone, name, kind)
                place = 0
            elif reply and self.claim(reply, name, kind):
                verdict = "bogus"
                if self.unprotected(name, kind, time):
                    return self.claim(reply, name, kind), "insecure"
        return None, verdict

    def resolve(self, name, kind, time):
        """Point 37: the verdict, the chain and the number of questions."""
        self.asked = 0
        chain, verdicts = [], []
        while True:
            outcome, verdict = self.round(name, kind, time)
            chain.append((name, outcome))
            verdicts.append(verdict)
            if not outcome or outcome[0] != "alias":
                break
            name = outcome[2]
            if len(chain) == 9 or name in [other for other, _ in chain]:
                verdicts.append("failed")
                break
        order = ["secure", "insecure", "bogus", "failed"]
        return max(verdicts, key=order.index), tuple(chain), self.asked
