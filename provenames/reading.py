"""The parts of messages, read from octets.

Each function takes a reader, which it moves behind what it reads, and raises BadOctets if the
octets there are not exactly what is written for such a part.
"""

from provenames.errors import BadOctets, BadRecord
from provenames.names import is_name
from provenames.records import KINDS, NAME_KINDS, SPACE_CODE, is_character_code, make_set
from provenames.writing import LAST_OCTET, OCTETS_OF_GAP_KINDS, OCTETS_OF_MAIL_NUMBER, OCTETS_OF_WORD

MOST_SIGNATURES = 20
WORDS_OF_SIGNATURE = 5
# The characters from the space on. The second space holds the place of the percent sign, which no
# string contains.
CHARACTERS = (
    " !\"#$ &'()*+,-./0123456789:;<=>?@ABCDEFGHIJKLMNOPQRSTUVWXYZ[\\]^_`abcdefghijklmnopqrstuvwxyz{|}~")


class Reader:
    """Octets that are read one after the other."""

    def __init__(self, octets):
        self._octets = list(octets)
        self._place = 0

    def next_octet(self):
        """Return the next octet; raise BadOctets if there is none or it is not an octet."""
        if self._place >= len(self._octets):
            raise BadOctets("octets are missing")
        octet = self._octets[self._place]
        if not 0 <= octet <= LAST_OCTET:
            raise BadOctets(f"this is not an octet: {octet}")
        self._place += 1
        return octet

    def finish(self):
        """Raise BadOctets if there is anything left to read."""
        if self._place < len(self._octets):
            raise BadOctets("octets are left over")


def read_number(reader, count):
    """Read an integer in so many octets."""
    number = 0
    for _ in range(count):
        number = number * (LAST_OCTET + 1) + reader.next_octet()
    return number


def read_word(reader):
    """Read a word."""
    return read_number(reader, OCTETS_OF_WORD)


def read_character(reader):
    """Read a character of a string."""
    code = reader.next_octet()
    if not is_character_code(code):
        raise BadOctets(f"this is not the code of a character: {code}")
    return CHARACTERS[code - SPACE_CODE]


def read_text(reader):
    """Read a string of any length."""
    length = reader.next_octet()
    return "".join([read_character(reader) for _ in range(length)])


def read_name(reader):
    """Read a name."""
    count = reader.next_octet()
    labels = tuple([read_text(reader) for _ in range(count)])
    if not is_name(labels):
        raise BadOctets("these labels are not a name")
    return labels


def read_kind(reader):
    """Read a kind."""
    place = reader.next_octet()
    if place >= len(KINDS):
        raise BadOctets(f"there is no kind with the place {place}")
    return KINDS[place]


def read_gap_kinds(reader):
    """Read the tuple of the kinds of a gap."""
    number = read_number(reader, OCTETS_OF_GAP_KINDS)
    if number >= 1 << len(KINDS):
        raise BadOctets("a gap has kinds that there are not")
    return tuple([kind for place, kind in enumerate(KINDS) if (number >> place) & 1 == 1])


def read_value(reader, kind):
    """Read what has the shape of a value of the kind."""
    if kind == "text":
        return read_text(reader)
    if kind == "mail":
        number = read_number(reader, OCTETS_OF_MAIL_NUMBER)
        return (number, read_name(reader))
    if kind in NAME_KINDS:
        return read_name(reader)
    if kind == "start":
        number = read_word(reader)
        return (number, read_word(reader))
    if kind == "gap":
        following = read_name(reader)
        return (following, read_gap_kinds(reader))
    return read_word(reader)


def read_set(reader):
    """Read a record set."""
    owner = read_name(reader)
    kind = read_kind(reader)
    ttl = read_word(reader)
    count = reader.next_octet()
    values = [read_value(reader, kind) for _ in range(count)]
    try:
        record_set = make_set(owner, kind, ttl, values)
    except BadRecord:
        raise BadOctets("these are not the values of a record set") from None
    # Only ascending values without duplicates come out of this as they went in.
    if record_set[3] != tuple(values):
        raise BadOctets("the values of a record set are not in ascending order")
    return record_set


def read_signature(reader):
    """Read a signature."""
    zone = read_name(reader)
    words = [read_word(reader) for _ in range(WORDS_OF_SIGNATURE)]
    return (zone, *words)


def read_signed_set(reader):
    """Read a signed set."""
    record_set = read_set(reader)
    count = reader.next_octet()
    if count > MOST_SIGNATURES:
        raise BadOctets(f"a signed set has {count} signatures")
    return (record_set, tuple([read_signature(reader) for _ in range(count)]))
