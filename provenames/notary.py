"""Notaries and their signers, in place of a signature scheme that nobody can forge."""


class Signer:
    """A signer of a notary; only a notary creates one."""

    def __init__(self, key, signings):
        self._key = key
        # All signers of a notary share its list, because the notary numbers their signings together.
        self._signings = signings

    @property
    def key(self):
        """The public key of the signer."""
        return self._key

    def sign(self, content):
        """Sign the content and return the signature number."""
        self._signings.append((self._key, content))
        return len(self._signings) - 1


class Notary:
    """A notary with its signers and the signings that they have done."""

    def __init__(self):
        self._many_signers = 0
        self._signings = []

    def new_signer(self):
        """Create a signer and return it."""
        signer = Signer(self._many_signers, self._signings)
        self._many_signers += 1
        return signer

    def holds(self, key, content, number):
        """Tell whether the signing with the number was done with the key over the content."""
        if not 0 <= number < len(self._signings):
            return False
        return self._signings[number] == (key, content)

    def __len__(self):
        """Return the number of signings."""
        return len(self._signings)
