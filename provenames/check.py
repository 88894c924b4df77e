"""Checking of derivations."""

from provenames.rules import follows


def check(notary, anchors, time, steps):
    """Tell whether the list of steps is a derivation for the trust anchors and the time."""
    facts = []
    for step in steps:
        if not follows(notary, anchors, time, facts, step):
            return False
        facts.append(step[1])
    return True
