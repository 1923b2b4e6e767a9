"""What the tests share: calls by name, ways to ask them, and a slow second reading of the document."""

from handkey.hand import answers

TOO_LATE = 2 ** 31
LATEST = 2 ** 31 - 1
GREATEST_NUMBER = 2 ** 32 - 1


def begin(lo, hi, e):
    return [0, lo, hi, e]


def down(t):
    return [1, t]


def up(t):
    return [2, t]


def ask(calls):
    """The number answered to each call; each of these calls answers just one."""
    listed = answers([number for call in calls for number in call])
    assert len(listed) == 2 * len(calls), (calls, listed)
    assert all(count == 1 for count in listed[::2]), (calls, listed)
    return listed[1::2]


def ask_last(calls):
    return ask(calls)[-1]


def turns(lengths, first_down=0):
    """The key pressed at first_down and then turned behind each of the lengths."""
    calls = [down(first_down)]
    t = first_down
    for place, length in enumerate(lengths):
        t += length
        calls.append(up(t) if place % 2 == 0 else down(t))
    return calls


def full(unit):
    """As many lengths as there may be, all of one unit, and the tick at which the key went down last."""
    return turns([unit] * 1024), 1024 * unit


class SlowKey:
    """Answers from all the lengths, anew at each call, word by word as the document tells it."""

    def __init__(self):
        self.range = None

    def answer(self, call):
        if call[0] == 0:
            return self.begin(call[1], call[2], call[3])
        return self.down(call[1]) if call[0] == 1 else self.up(call[1])

    def begin(self, lo, hi, e):
        if not 1 <= lo <= 4096 or not lo <= hi <= 4096 or not e < lo:
            return -22
        self.range, self.e = range(lo, hi + 1), e
        self.now, self.key, self.ticks = 0, "up", []
        return 0

    def down(self, t):
        if t < self.now or t >= 2 ** 31:
            return -22
        if self.key == "up" and self.ticks and t <= self.ticks[-1]:
            return -22
        if self.key == "down":
            return -16
        return self.turned(t, "down")

    def up(self, t):
        if t < self.now or t >= 2 ** 31:
            return -22
        if self.key == "down" and t <= self.ticks[-1]:
            return -22
        if self.key == "up":
            return -16
        return self.turned(t, "up")

    def turned(self, t, key):
        if len(self.ticks) - 1 == 1024:
            return -28
        self.now, self.key = t, key
        self.ticks.append(t)
        return sum(1 for unit in self.range if self.fits(unit))

    def fits(self, unit):
        pairs = zip(self.ticks, self.ticks[1:])
        lengths = [min(end - start, 1000000) for start, end in pairs]
        marks, gaps = lengths[::2], lengths[1::2]
        return (all(self.is_one_of(mark, unit, (1, 3)) for mark in marks)
                and all(self.is_one_of(gap, unit, (1, 3, 7)) for gap in gaps))

    def is_one_of(self, length, unit, counts):
        for k in counts:
            if k * unit - self.e <= length and (k == 7 or length <= k * unit + self.e):
                return True
        return False
