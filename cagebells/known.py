"""Which numbers of levels and loads are known, and the refusal of the others."""

from cagebells.errors import UnknownLevel, UnknownLoad


def is_known(number, many):
    # Below 0 is asked too: Python would take such an index from the list's end.
    return number >= 0 and number < many


def check_level(level, many):
    if not is_known(level, many):
        raise UnknownLevel("there is no level of that number")


def check_load(number, many):
    if not is_known(number, many):
        raise UnknownLoad("there is no load of that number")
