"""The parts of messages, written as lists of octets."""

from provenames.records import KINDS, NAME_KINDS

LAST_OCTET = 255
BITS_OF_OCTET = 8
OCTETS_OF_WORD = 4
OCTETS_OF_MAIL_NUMBER = 2
OCTETS_OF_GAP_KINDS = 2


def write_number(number, count):
    """Write the integer in so many octets, the most significant one first."""
    return [(number >> (BITS_OF_OCTET * place)) & LAST_OCTET for place in reversed(range(count))]


def write_word(word):
    """Write a word."""
    return write_number(word, OCTETS_OF_WORD)


def write_text(text):
    """Write a string: its length and the codes of its characters."""
    return [len(text)] + [ord(character) for character in text]


def write_name(name):
    """Write a name: the number of its labels, and the labels from the root down."""
    octets = [len(name)]
    for label in name:
        octets.extend(write_text(label))
    return octets


def write_kind(kind):
    """Write a kind: its place among the kinds."""
    return [KINDS.index(kind)]


def write_mail(value):
    """Write a value of a mail."""
    number, name = value
    return write_number(number, OCTETS_OF_MAIL_NUMBER) + write_name(name)


def write_start(value):
    """Write a value of a start."""
    number, quiet = value
    return write_word(number) + write_word(quiet)


def write_gap(value):
    """Write a value of a gap; each of its kinds is a bit of a number."""
    following, kinds = value
    number = sum([1 << KINDS.index(kind) for kind in kinds])
    return write_name(following) + write_number(number, OCTETS_OF_GAP_KINDS)


def write_value(kind, value):
    """Write a value of the kind."""
    if kind == "text":
        return write_text(value)
    if kind == "mail":
        return write_mail(value)
    if kind in NAME_KINDS:
        return write_name(value)
    if kind == "start":
        return write_start(value)
    if kind == "gap":
        return write_gap(value)
    return write_word(value)


def write_set(record_set):
    """Write a record set."""
    owner, kind, ttl, values = record_set
    octets = write_name(owner) + write_kind(kind) + write_word(ttl) + [len(values)]
    for value in values:
        octets.extend(write_value(kind, value))
    return octets


def write_signature(signature):
    """Write a signature: its zone and its five words."""
    octets = write_name(signature[0])
    for word in signature[1:]:
        octets.extend(write_word(word))
    return octets


def write_signed_set(signed_set):
    """Write a signed set."""
    record_set, signatures = signed_set
    octets = write_set(record_set) + [len(signatures)]
    for signature in signatures:
        octets.extend(write_signature(signature))
    return octets
