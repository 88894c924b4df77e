"""Networks: they deliver the answers of servers, and bend some of them on the way."""

from provenames.messages import read_reply, write_reply

NO_BEND = ("none",)


def bent(bend, original):
    """Return what the bend makes of the original, which is a written reply."""
    word = bend[0]
    if word == "change":
        return changed(original, bend[1], bend[2])
    if word == "cut":
        return original[:max(0, bend[1])]
    if word == "strip":
        return stripped(original)
    if word == "omit":
        return without_set(original, bend[1])
    return list(original)


def changed(original, index, octet):
    """Return the original with the octet at the index, if it has this index."""
    octets = list(original)
    if 0 <= index < len(octets):
        octets[index] = octet
    return octets


def stripped(original):
    """Return the original in which no signed set has signatures."""
    code, signed_sets = read_reply(original)
    return write_reply((code, tuple([(signed_set[0], ()) for signed_set in signed_sets])))


def without_set(original, index):
    """Return the original without the signed set that has the index, if there is one."""
    code, signed_sets = read_reply(original)
    if not 0 <= index < len(signed_sets):
        return list(original)
    return write_reply((code, signed_sets[:index] + signed_sets[index + 1:]))


class Network:
    """A network with servers at addresses and a queue of bends."""

    def __init__(self):
        self._servers = {}
        self._bends = []
        # The original of each sending, at its number.
        self._originals = []

    def attach(self, address, server):
        """Put the server at the address, in place of another one if there is one."""
        self._servers[address] = server

    def bend(self, bend):
        """Add a bend to the end of the queue."""
        # The octets of a replacement are a list that the caller may change later.
        self._bends.append(tuple([list(part) if isinstance(part, list) else part for part in bend]))

    def send(self, address, octets):
        """Send the octets to the address and return what is delivered: None or octets."""
        bend = self._bends.pop(0) if self._bends else NO_BEND
        original = self._answer_at(address, octets)
        delivered = self._delivered(bend, original, octets)
        self._originals.append(original)
        return delivered

    def __len__(self):
        """Return the number of sendings."""
        return len(self._originals)

    def _answer_at(self, address, octets):
        """Return the answer of the server at the address, or None if there is no server."""
        server = self._servers.get(address)
        if server is None:
            return None
        return server.answer(octets)

    def _delivered(self, bend, original, octets):
        """Return what is delivered of the sending that comes next, always as a new list."""
        word = bend[0]
        if word == "drop":
            return None
        if word == "replace":
            return list(bend[1])
        if word == "redirect":
            return self._answer_at(bend[1], octets)
        if word == "replay":
            return self._earlier(bend[1])
        return None if original is None else bent(bend, original)

    def _earlier(self, number):
        """Return the original of the earlier sending with the number, or None."""
        if not 0 <= number < len(self._originals):
            return None
        original = self._originals[number]
        return None if original is None else list(original)
