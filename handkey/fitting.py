"""Of which units a length may be 1, 3, or 7 and more, off by the slack at most."""


def least_unit(length, count, slack):
    # A gap of 7 may also be longer, so for that no unit is too small.
    if count == 7:
        return 1
    return (length - slack + count - 1) // count


def greatest_unit(length, count, slack):
    return (length + slack) // count


def count_by_now(gap, unit, slack):
    """The least that a gap can come to by a unit, which is so long already and still goes on."""
    if gap <= unit + slack:
        return 1
    if gap <= 3 * unit + slack:
        return 3
    return 7
