"""Resolvers: they ask servers from the root down, and follow aliases."""

from provenames.received import Received
from provenames.rounds import Rounds

# From the best one to the worst one.
VERDICTS = ("secure", "insecure", "bogus", "failed")
MOST_ROUNDS = 9


class Answer:
    """What a resolving has found; only a resolver creates one."""

    def __init__(self, verdict, chain, derivations, asked):
        self.verdict = verdict
        self.chain = chain
        self.derivations = derivations
        self.asked = asked


class Resolver:
    """A resolver with trust anchors, the addresses of the root, and what it received."""

    def __init__(self, notary, network, *, anchors, roots):
        self._notary = notary
        self._network = network
        self._anchors = list(anchors)
        self._roots = list(roots)
        self._received = Received()

    def resolve(self, name, kind, time):
        """Resolve the question at the time and return an answer."""
        rounds = Rounds(self._notary, self._network, self._received,
                        anchors=self._anchors, roots=self._roots, time=time)
        chain = []
        derivations = []
        worst = 0
        following = name
        while following is not None:
            outcome, verdict, derivation = rounds.resolve(following, kind)
            chain.append((following, outcome))
            derivations.append(derivation)
            worst = max(worst, VERDICTS.index(verdict))
            following = target_of(outcome)
            if following is not None and is_last_round(chain, following):
                following = None
                worst = len(VERDICTS) - 1
        return Answer(VERDICTS[worst], tuple(chain), tuple(derivations), rounds.asked)

    def live(self, time):
        """Return the list of the received signed sets that are live at the time."""
        return self._received.live(time)


def target_of(outcome):
    """Return the target if the outcome is an alias, otherwise None."""
    if outcome is None or outcome[0] != "alias":
        return None
    return outcome[2]


def is_last_round(chain, target):
    """Tell whether no further round may begin with the target of an alias."""
    return len(chain) == MOST_ROUNDS or target in [name for name, _ in chain]
