"""Which numbers of levels and loads are known."""


def is_known(number, many):
    # Below 0 is asked too: Python would take such an index from the list's end.
    return number >= 0 and number < many
