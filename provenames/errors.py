"""The errors of the program."""


class ProvenamesError(ValueError):
    """The base class of all errors of the program."""


class BadName(ProvenamesError):
    """Something is not a name, or is a name that cannot stand there."""


class BadRecord(ProvenamesError):
    """Something is not a record set, or is not a part of one."""


class BadEdition(ProvenamesError):
    """An edition cannot be published in this way."""


class BadOctets(ProvenamesError):
    """A list of integers is not the message that was expected."""


class ZoneConflict(ProvenamesError):
    """A zone would break one of its rules."""


class DeskConflict(ProvenamesError):
    """A desk does not accept an edition."""


class Unknown(ProvenamesError):
    """What is to be removed is not there."""
