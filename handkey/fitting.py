"""Which units fit a length: a mark is 1 or 3 of them, a gap 1, 3, or 7 and more."""


def left_by_mark(units, length, slack):
    return [unit for unit in units
            if abs(length - unit) <= slack or abs(length - 3 * unit) <= slack]


def left_by_gap(units, length, slack):
    return [unit for unit in units
            if abs(length - unit) <= slack or abs(length - 3 * unit) <= slack or length >= 7 * unit - slack]


def left_by_held_key(units, held, slack):
    """The units left while the key is still down: the mark that goes on can only grow."""
    return [unit for unit in units if held <= 3 * unit + slack]
