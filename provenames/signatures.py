"""Signatures of record sets: tuples (zone, key, edition, start, end, number)."""


def sign_set(signer, record_set, *, zone, edition, start, end):
    """Sign the record set for the edition of the zone and return the signature."""
    number = signer.sign((zone, edition, start, end, record_set))
    return (zone, signer.key, edition, start, end, number)


def is_valid(notary, signature, record_set, time):
    """Tell whether the signature is valid for the record set at the time."""
    zone, key, edition, start, end, number = signature
    if not start <= time <= end:
        return False
    return notary.holds(key, (zone, edition, start, end, record_set), number)
