"""Received signed sets and how long they live."""


class Received:
    """The signed sets that were received, each with the end of its life."""

    def __init__(self):
        # In the order in which they came first, which a later end does not change.
        self._ends = {}

    def take(self, signed_set, time):
        """Receive the signed set at the time; one without signatures is ignored."""
        record_set, signatures = signed_set
        if len(signatures) == 0:
            return
        end = time + record_set[2]
        self._ends[signed_set] = max(end, self._ends.get(signed_set, end))

    def live(self, time):
        """Return the list of the signed sets that live until the time or longer."""
        return [signed_set for signed_set, end in self._ends.items() if time <= end]

    def __len__(self):
        """Return the number of different signed sets that were received."""
        return len(self._ends)
