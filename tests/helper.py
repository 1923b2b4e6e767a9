"""What the tests share: calls by name, ways to ask them, and a slow second reading of the document."""

from handkey.hand import answers

TOO_LATE = 2 ** 31
LATEST = 2 ** 31 - 1
GREATEST_NUMBER = 2 ** 32 - 1

CODES = dict(row.split() for row in """
    A .-, B -..., C -.-., D -.., E ., F ..-., G --., H ...., I .., J .---, K -.-, L .-.., M --, N -., O ---, P .--.,
    Q --.-, R .-., S ..., T -, U ..-, V ...-, W .--, X -..-, Y -.--, Z --.., 0 -----, 1 .----, 2 ..---, 3 ...--,
    4 ....-, 5 ....., 6 -...., 7 --..., 8 ---.., 9 ----.""".split(","))


def begin(lo, hi, e):
    return [0, lo, hi, e]


def down(t):
    return [1, t]


def up(t):
    return [2, t]


def at(t):
    return [3, t]


def read():
    return [4]


def units():
    return [5]


def flat(calls):
    return [number for call in calls for number in call]


def ask_all(calls):
    """The numbers answered to each call, a list for each."""
    listed = answers(flat(calls))
    told = []
    while listed:
        assert 1 <= listed[0] < len(listed), (calls, listed)
        told.append(listed[1:1 + listed[0]])
        listed = listed[1 + listed[0]:]
    assert len(told) == len(calls), (calls, told)
    return told


def ask(calls):
    """The number answered to each call; each of these calls answers just one."""
    told = ask_all(calls)
    assert all(len(numbers) == 1 for numbers in told), (calls, told)
    return [numbers[0] for numbers in told]


def ask_last(calls):
    return ask(calls)[-1]


def as_text(numbers):
    """What a read answered, as a text; None if no unit may be."""
    if numbers == [-61]:
        return None
    assert numbers[0] == len(numbers) - 1, numbers
    return "".join(chr(byte) for byte in numbers[1:])


def text_behind(calls):
    return as_text(ask_all(calls + [read()])[-1])


def texts_behind_each(calls):
    """What's told behind each of the calls."""
    told = ask_all([asked for call in calls for asked in (call, read())])
    return [as_text(numbers) for numbers in told[1::2]]


def units_behind(calls):
    return ask_all(calls + [units()])[-1]


def turns(lengths, first_down=0):
    """The key pressed at first_down and then turned behind each of the lengths."""
    calls = [down(first_down)]
    t = first_down
    for place, length in enumerate(lengths):
        t += length
        calls.append(up(t) if place % 2 == 0 else down(t))
    return calls


def counts_of(text):
    """How many units each length has if the text is sent."""
    words = [[[1 if sign == "." else 3 for sign in CODES[letter]] for letter in word] for word in text.split(" ")]
    counts = []
    for word in words:
        for letter in word:
            for mark in letter:
                counts += [mark, 1]
            counts[-1] = 3
        counts[-1] = 7
    return counts[:-1]


def sent(text, unit):
    return [count * unit for count in counts_of(text)]


def hand(lo, hi, e, lengths, first_down=0):
    return [begin(lo, hi, e)] + turns(lengths, first_down)


def full(unit):
    """As many lengths as there may be, all of one unit, and the tick at which the key went down last."""
    return turns([unit] * 1024), 1024 * unit


class SlowKey:
    """Answers from all the lengths and by each unit, anew at each call, word by word as the document tells it."""

    letters = {marks: ord(letter) for letter, marks in CODES.items()}

    def answer(self, call):
        names = ("begin", "down", "up", "at", "read", "units")
        told = getattr(self, names[call[0]])(*call[1:])
        return told if isinstance(told, list) else [told]

    def begin(self, lo, hi, e):
        if not 1 <= lo <= 4096 or not lo <= hi <= 4096 or not e < lo:
            return -22
        self.range, self.e = range(lo, hi + 1), e
        self.now, self.key, self.ticks = 0, "up", []
        return 0

    def down(self, t):
        if t < self.now or t >= 2 ** 31:
            return -22
        if self.key == "up" and self.ticks and t <= self.ticks[-1]:
            return -22
        if self.key == "down":
            return -16
        return self.turned(t, "down")

    def up(self, t):
        if t < self.now or t >= 2 ** 31:
            return -22
        if self.key == "down" and t <= self.ticks[-1]:
            return -22
        if self.key == "up":
            return -16
        return self.turned(t, "up")

    def turned(self, t, key):
        if len(self.ticks) - 1 == 1024:
            return -28
        self.now, self.key = t, key
        self.ticks.append(t)
        return len(self.that_may_be())

    def at(self, t):
        if t < self.now or t >= 2 ** 31:
            return -22
        self.now = t
        return len(self.that_may_be())

    def read(self):
        rows = [self.row(unit) for unit in self.that_may_be()]
        if not rows:
            return -61
        size = max(n for n in range(len(rows[0]) + 1) if all(row[:n] == rows[0][:n] for row in rows))
        return [size] + rows[0][:size]

    def units(self):
        left = self.that_may_be()
        return [len(left), left[0], left[-1]] if left else [0, 0, 0]

    def that_may_be(self):
        return [unit for unit in self.range if self.may_be(unit)]

    def may_be(self, unit):
        if self.key == "down" and self.now - self.ticks[-1] > 3 * unit + self.e:
            return False
        lengths = self.lengths()
        return (all(self.count(mark, unit, (1, 3)) for mark in lengths[::2])
                and all(self.count(gap, unit, (1, 3, 7)) for gap in lengths[1::2]))

    def lengths(self):
        return [min(end - start, 1000000) for start, end in zip(self.ticks, self.ticks[1:])]

    def count(self, length, unit, counts):
        """Which of the counts the length may be of the unit; 0 if none."""
        for k in counts:
            if k * unit - self.e <= length and (k == 7 or length <= k * unit + self.e):
                return k
        return 0

    def row(self, unit):
        row, marks = [], ""
        for place, length in enumerate(self.lengths()):
            if place % 2 == 0:
                marks += ".-"[self.count(length, unit, (1, 3)) // 3]
            else:
                gap = self.count(length, unit, (1, 3, 7))
                if gap >= 3:
                    row, marks = row + [self.letters.get(marks, 42)], ""
                if gap == 7:
                    row = row + [32]
        if self.key == "up" and self.ticks:
            gap = self.now - self.ticks[-1]
            if gap > unit + self.e:
                row = row + [self.letters.get(marks, 42)]
            if gap > 3 * unit + self.e:
                row = row + [32]
        return row


def random_range(source):
    lo = source.choice((1, 2, 9, 10, 50, source.randint(1, 120)))
    return lo, lo + source.choice((0, 1, 5, 2 * lo, 40)), source.choice((0, lo - 1, lo // 3))


class RandomHand:
    """A line of calls by a source: a hand that mostly keeps to some unit that may be, and odd calls between."""

    def __init__(self, source, odd=0.35):
        self.source, self.odd, self.slow, self.line = source, odd, SlowKey(), []
        self.ask(begin(*random_range(source)))

    def ask(self, call):
        self.line.append(call)
        self.slow.answer(call)

    def grow(self, size):
        for place in range(size):
            if self.source.random() < self.odd:
                self.ask(self.odd_call())
            else:
                self.ask(self.turn())
        return self.line

    def turn(self):
        slow, source = self.slow, self.source
        is_down = slow.key == "down"
        unit = source.choice(slow.that_may_be() or list(slow.range))
        count = source.choice((1, 3) if is_down else (1, 3, 7, 12))
        off = source.choice((-slow.e, slow.e, source.randint(-slow.e, slow.e), source.randint(-slow.e - 1, slow.e + 1)))
        last = slow.ticks[-1] if slow.ticks else 0
        t = max(last + count * unit + off, last + 1, slow.now)
        return up(t) if is_down else down(t)

    def odd_call(self):
        slow, source = self.slow, self.source
        kind = source.randrange(20)
        if kind == 0:
            return begin(*random_range(source))
        if kind == 1:
            return begin(slow.range[0], slow.range[-1], slow.range[0])
        if kind < 6:
            near = (slow.now - 1, slow.now, slow.now + 1, 0, TOO_LATE)
            return source.choice((down, up, at))(max(source.choice(near), 0))
        if kind < 14:
            unit = source.choice(slow.range)
            last = slow.ticks[-1] if slow.ticks else 0
            step = source.choice((0, 1, 3)) * unit + source.choice((-1, 0, 1, slow.e, slow.e + 1))
            return at(max(last + step, slow.now))
        return source.choice((read(), units()))
