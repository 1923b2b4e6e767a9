"""One key: how it went down and up, and which units that leaves."""

from handkey.fitting import left_by_gap, left_by_held_key, left_by_mark

WRONG_NUMBER = -22
KEY_IS_THERE = -16
NO_ROOM = -28

GREATEST_UNIT = 4096
FIRST_TICK_TOO_LATE = 2147483648
MOST_LENGTHS = 1024
LONGEST_LENGTH = 1000000


def is_range(lo, hi, slack):
    return lo >= 1 and hi >= lo and hi <= GREATEST_UNIT and slack < lo


class Keying:
    def __init__(self):
        self.restart([], 0)

    def restart(self, units, slack):
        self.slack = slack
        self.now = 0
        self.is_down = False
        self.was_pressed = False
        self.turned_at = 0
        self.lengths = []
        # A length that is over rules units out for good, so those that
        # fit are kept instead of asking all the lengths at each call.
        self.fitting = units

    def begin(self, lo, hi, slack):
        if not is_range(lo, hi, slack):
            return WRONG_NUMBER
        self.restart(list(range(lo, hi + 1)), slack)
        return 0

    def down(self, t):
        refusal = self.refusal_to_turn(t, True)
        if refusal != 0:
            return refusal
        # Ahead of the first mark there is no gap: gaps lie between marks.
        if self.was_pressed:
            self.fitting = left_by_gap(self.fitting, self.end_length(t), self.slack)
        self.turn(t, True)
        return self.how_many_may_be()

    def up(self, t):
        refusal = self.refusal_to_turn(t, False)
        if refusal != 0:
            return refusal
        self.fitting = left_by_mark(self.fitting, self.end_length(t), self.slack)
        self.turn(t, False)
        return self.how_many_may_be()

    def refusal_to_turn(self, t, to_down):
        """The number that refuses to turn the key at t, or 0."""
        if t < self.now or t >= FIRST_TICK_TOO_LATE:
            return WRONG_NUMBER
        # Asked ahead of the tick of the last turn: of a key that is there
        # already, -22 is told of now and the latest tick alone.
        if self.is_down == to_down:
            return KEY_IS_THERE
        if self.was_pressed and t <= self.turned_at:
            return WRONG_NUMBER
        if len(self.lengths) >= MOST_LENGTHS:
            return NO_ROOM
        return 0

    def end_length(self, t):
        length = min(t - self.turned_at, LONGEST_LENGTH)
        self.lengths.append(length)
        return length

    def turn(self, t, to_down):
        self.now = t
        self.is_down = to_down
        self.was_pressed = True
        self.turned_at = t

    def how_many_may_be(self):
        return len(self.units_that_may_be())

    def units_that_may_be(self):
        if not self.is_down:
            return list(self.fitting)
        return left_by_held_key(self.fitting, self.now - self.turned_at, self.slack)
