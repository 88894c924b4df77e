"""Messages: questions in zones and replies, written as lists of octets."""

from provenames.errors import BadOctets
from provenames.reading import Reader, read_kind, read_name, read_number, read_signed_set
from provenames.writing import write_kind, write_name, write_number, write_signed_set

CODES = ("data", "alias", "nodata", "noname", "referral", "refused")
MOST_SIGNED_SETS = 200
OCTETS_OF_COUNT = 2


def write_question(zone, name, kind):
    """Return the octets of the question in the zone."""
    return write_name(zone) + write_name(name) + write_kind(kind)


def read_question(octets):
    """Return the zone, the name and the kind; raise BadOctets if this is not a question."""
    reader = Reader(octets)
    zone = read_name(reader)
    name = read_name(reader)
    kind = read_kind(reader)
    if kind == "gap":
        raise BadOctets("a question has the kind gap")
    reader.finish()
    return (zone, name, kind)


def write_reply(reply):
    """Return the octets of the reply."""
    code, signed_sets = reply
    octets = [CODES.index(code)] + write_number(len(signed_sets), OCTETS_OF_COUNT)
    for signed_set in signed_sets:
        octets.extend(write_signed_set(signed_set))
    return octets


def read_reply(octets):
    """Return the code and the tuple of signed sets; raise BadOctets if this is not a reply."""
    reader = Reader(octets)
    place = reader.next_octet()
    if place >= len(CODES):
        raise BadOctets(f"there is no code with the place {place}")
    count = read_number(reader, OCTETS_OF_COUNT)
    if count > MOST_SIGNED_SETS:
        raise BadOctets(f"a reply has {count} signed sets")
    signed_sets = tuple([read_signed_set(reader) for _ in range(count)])
    reader.finish()
    return (CODES[place], signed_sets)
