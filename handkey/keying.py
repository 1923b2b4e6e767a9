"""One key: how it went down and up, which units that leaves, and what's told by them."""

from handkey.reading import Reading, common_beginning, read_gap, read_held_key, read_mark

WRONG_NUMBER = -22
KEY_IS_THERE = -16
NO_ROOM = -28
NO_UNIT = -61

GREATEST_UNIT = 4096
FIRST_TICK_TOO_LATE = 2147483648
MOST_LENGTHS = 1024
LONGEST_LENGTH = 1000000


def is_range(lo, hi, slack):
    return lo >= 1 and hi >= lo and hi <= GREATEST_UNIT and slack < lo


class Keying:
    def __init__(self):
        self.restart([], 0)

    def restart(self, readings, slack):
        self.slack = slack
        self.now = 0
        self.is_down = False
        self.was_pressed = False
        self.turned_at = 0
        self.lengths_over = 0
        # These hold just the units that may be: one that a length or a
        # key held down has ruled out can't come back, so it isn't kept.
        self.readings = readings

    def begin(self, lo, hi, slack):
        if not is_range(lo, hi, slack):
            return WRONG_NUMBER
        self.restart([Reading(lo, hi, [], "")], slack)
        return 0

    def down(self, t):
        refusal = self.refusal_to_turn(t, True)
        if refusal != 0:
            return refusal
        # Ahead of the first mark there is no gap: gaps lie between marks.
        if self.was_pressed:
            self.readings = read_gap(self.readings, self.end_length(t), self.slack)
        self.turn(t, True)
        return self.how_many_may_be()

    def up(self, t):
        refusal = self.refusal_to_turn(t, False)
        if refusal != 0:
            return refusal
        self.readings = read_mark(self.readings, self.end_length(t), self.slack)
        self.turn(t, False)
        return self.how_many_may_be()

    def at(self, t):
        if self.is_wrong_tick(t):
            return WRONG_NUMBER
        self.now = t
        if self.is_down:
            self.readings = read_held_key(self.readings, t - self.turned_at, self.slack)
        return self.how_many_may_be()

    def read(self):
        if len(self.readings) == 0:
            return [NO_UNIT]
        gap = self.gap_that_goes_on()
        told = common_beginning([reading.row_in_gap(gap, self.slack) for reading in self.readings])
        return [len(told)] + told

    def units(self):
        if len(self.readings) == 0:
            return [0, 0, 0]
        least = min([reading.least for reading in self.readings])
        greatest = max([reading.greatest for reading in self.readings])
        return [self.how_many_may_be(), least, greatest]

    def is_wrong_tick(self, t):
        return t < self.now or t >= FIRST_TICK_TOO_LATE

    def refusal_to_turn(self, t, to_down):
        """The number that refuses to turn the key at t, or 0."""
        if self.is_wrong_tick(t):
            return WRONG_NUMBER
        # Asked ahead of the tick of the last turn: of a key that is there
        # already, -22 is told of now and the latest tick alone.
        if self.is_down == to_down:
            return KEY_IS_THERE
        if self.was_pressed and t <= self.turned_at:
            return WRONG_NUMBER
        if self.lengths_over >= MOST_LENGTHS:
            return NO_ROOM
        return 0

    def end_length(self, t):
        self.lengths_over += 1
        return min(t - self.turned_at, LONGEST_LENGTH)

    def turn(self, t, to_down):
        self.now = t
        self.is_down = to_down
        self.was_pressed = True
        self.turned_at = t

    def gap_that_goes_on(self):
        """How long the gap has lasted by now; 0 if there is none."""
        if self.is_down or not self.was_pressed:
            return 0
        return self.now - self.turned_at

    def how_many_may_be(self):
        return sum([reading.how_many() for reading in self.readings])
