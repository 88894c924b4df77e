"""Names: tuples of labels, in order from the root down.

Names are ordered as Python orders tuples of strings, so no function here compares them.
"""

from provenames.errors import BadName

STAR_LABEL = "*"
LABEL_CHARACTERS = "abcdefghijklmnopqrstuvwxyz0123456789-"
MOST_CHARACTERS = 20
MOST_LABELS = 12


def is_plain_label(label):
    """Tell whether the string is a label other than the star."""
    if not 1 <= len(label) <= MOST_CHARACTERS:
        return False
    for character in label:
        if character not in LABEL_CHARACTERS:
            return False
    return True


def is_name(labels):
    """Tell whether the tuple of strings is a name."""
    if len(labels) > MOST_LABELS:
        return False
    # Only the last label may be the star, so it is left out where it may stand.
    plain = labels[:-1] if is_wildcard(labels) else labels
    for label in plain:
        if not is_plain_label(label):
            return False
    return True


def is_wildcard(name):
    """Tell whether the last label of the name is the star."""
    return name[-1:] == (STAR_LABEL,)


def parse_name(text):
    """Return the name whose written form is the text; raise BadName if there is none."""
    if text == ".":
        return ()
    # Beyond ASCII there are characters that are no capital letters and become small letters.
    if not text.isascii() or not text.endswith("."):
        raise BadName(f"this is not the written form of a name: {text}")
    labels = tuple(text[:-1].lower().split(".")[::-1])
    if not is_name(labels):
        raise BadName(f"this is not the written form of a name: {text}")
    return labels


def format_name(name):
    """Return the written form of the name."""
    if name == ():
        return "."
    return "".join([label + "." for label in name[::-1]])


def lies_in(name, above):
    """Tell whether the other name is a prefix of the name."""
    return name[:len(above)] == above


def lies_below(name, above):
    """Tell whether the name lies in the other name and is not equal to it."""
    return lies_in(name, above) and name != above


def shared(name, other):
    """Return the longest common prefix of the two names."""
    length = 0
    for label, other_label in zip(name, other):
        if label != other_label:
            break
        length += 1
    return name[:length]


def star(name):
    """Return the name with the star appended; raise BadName if it has no star."""
    if is_wildcard(name) or len(name) >= MOST_LABELS:
        raise BadName(f"this name has no star: {format_name(name)}")
    return name + (STAR_LABEL,)


def ancestors(name):
    """Yield the names in which the name lies, from the root to the name itself."""
    for length in range(len(name) + 1):
        yield name[:length]
