"""Record sets: tuples of an owner, a kind, a lifetime and values."""

from provenames.errors import BadName, BadRecord
from provenames.names import is_name

KINDS = ("address", "text", "mail", "alias", "server", "start", "key", "link", "gap")
NAME_KINDS = ("alias", "server")
SINGLE_KINDS = ("alias", "start", "gap")
MOST_VALUES = 100
MOST_TEXT = 60
LAST_WORD = 4294967295
LAST_MAIL_NUMBER = 65535
SPACE_CODE = 32
TILDE_CODE = 126
PERCENT_CODE = 37


def is_word(number):
    """Tell whether the integer is a word."""
    return 0 <= number <= LAST_WORD


def is_character_code(code):
    """Tell whether the integer is the code of a character that strings may contain."""
    return SPACE_CODE <= code <= TILDE_CODE and code != PERCENT_CODE


def is_text(value):
    """Tell whether the string is a value of a text."""
    if len(value) > MOST_TEXT:
        return False
    for character in value:
        if not is_character_code(ord(character)):
            return False
    return True


def is_mail(value):
    """Tell whether the pair of an integer and a tuple of strings is a value of a mail."""
    number, name = value
    return 0 <= number <= LAST_MAIL_NUMBER and is_name(name)


def is_start(value):
    """Tell whether the pair of integers is a value of a start."""
    number, quiet = value
    return is_word(number) and is_word(quiet)


def are_ordered_kinds(kinds):
    """Tell whether the tuple of strings has kinds in the order of KINDS, each at most once."""
    return kinds == tuple([kind for kind in KINDS if kind in kinds])


def is_gap(value):
    """Tell whether the pair of two tuples of strings is a value of a gap."""
    name, kinds = value
    return is_name(name) and are_ordered_kinds(kinds)


def is_value(kind, value):
    """Tell whether the value, which has the shape that the kind asks for, is a value of it."""
    if kind == "text":
        return is_text(value)
    if kind == "mail":
        return is_mail(value)
    if kind in NAME_KINDS:
        return is_name(value)
    if kind == "start":
        return is_start(value)
    if kind == "gap":
        return is_gap(value)
    return is_word(value)


def is_allowed_count(kind, count):
    """Tell whether a record set of the kind may have so many different values."""
    if kind in SINGLE_KINDS:
        return count == 1
    return 1 <= count <= MOST_VALUES


def make_set(name, kind, ttl, values):
    """Return the record set; raise BadName or BadRecord if there is none.

    The values may come in any order, and more than once.
    """
    if not is_name(name):
        raise BadName("the owner of a record set is not a name")
    if kind not in KINDS:
        raise BadRecord(f"this is not a kind: {kind}")
    if not is_word(ttl):
        raise BadRecord(f"this lifetime is not a word: {ttl}")
    for value in values:
        if not is_value(kind, value):
            raise BadRecord(f"this is not a value of the kind {kind}: {value}")
    different = tuple(sorted(set(values)))
    if not is_allowed_count(kind, len(different)):
        raise BadRecord(f"the kind {kind} does not allow {len(different)} different values")
    return (name, kind, ttl, different)
