"""The ways in which the lengths may be read: which units lead to each, and the letters by them."""

from handkey.fitting import count_by_now, greatest_unit, least_unit
from handkey.letters import BLANK, letter_byte

MARK_COUNTS = (1, 3)
GAP_COUNTS = (1, 3, 7)


# The units by which one length is so many lie side by side, and so do those
# by which all are: the least and the greatest of a reading tell its units.
class Reading:
    def __init__(self, least, greatest, row, marks):
        self.least = least
        self.greatest = greatest
        # The bytes of the letters that are over; a longer row is a new list, so readings may share one.
        self.row = row
        # The marks of the letter that isn't over.
        self.marks = marks

    def how_many(self):
        return self.greatest - self.least + 1

    def within(self, least, greatest):
        return Reading(max(self.least, least), min(self.greatest, greatest), self.row, self.marks)

    def if_so_many(self, length, count, slack):
        """This reading by those units alone of which the length may be so many."""
        return self.within(least_unit(length, count, slack), greatest_unit(length, count, slack))

    def with_mark(self, count):
        sign = "." if count == 1 else "-"
        return Reading(self.least, self.greatest, self.row, self.marks + sign)

    def with_gap(self, count):
        marks = self.marks if count == 1 else ""
        return Reading(self.least, self.greatest, self.row_behind_gap(count), marks)

    def row_behind_gap(self, count):
        if count == 1:
            return self.row
        ended = self.row + [letter_byte(self.marks)]
        return ended if count == 3 else ended + [BLANK]

    def row_in_gap(self, gap, slack):
        """What stands first by all its units alike, while a gap goes on."""
        # The greater the unit, the later the letter and the blank are
        # over, so the greatest one's row is how all the others begin.
        return self.row_behind_gap(count_by_now(gap, self.greatest, slack))


def with_units(readings):
    return [reading for reading in readings if reading.least <= reading.greatest]


def read_mark(readings, length, slack):
    longer = []
    for reading in readings:
        for count in MARK_COUNTS:
            longer.append(reading.if_so_many(length, count, slack).with_mark(count))
    return with_units(longer)


def read_gap(readings, length, slack):
    longer = []
    for reading in readings:
        for count in GAP_COUNTS:
            longer.append(reading.if_so_many(length, count, slack).with_gap(count))
    return with_units(longer)


def read_held_key(readings, held, slack):
    """What's left while the key is still down: it may be let go at 3 units at the latest."""
    least = least_unit(held, 3, slack)
    return with_units([reading.within(least, reading.greatest) for reading in readings])


def common_beginning(rows):
    """The longest row with which each of the rows begins; there's one row at least."""
    shortest = min(rows, key=len)
    for place, byte in enumerate(shortest):
        if any([row[place] != byte for row in rows]):
            return shortest[:place]
    return list(shortest)
