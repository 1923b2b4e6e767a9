"""All six calls, by fixed seeds, answered as a slow second reading of the words would have it."""

import random
import unittest

from tests.helper import RandomHand, SlowKey, ask_all, at, begin, down, read, turns, units, up


class LikeTheWords(unittest.TestCase):
    def check(self, line):
        slow = SlowKey()
        self.assertEqual(ask_all(line), [slow.answer(call) for call in line])

    def test_many_lines(self):
        source = random.Random(40)
        for number in range(600):
            line = RandomHand(source).grow(source.randint(1, 40))
            with self.subTest(number=number, line=line):
                self.check(line)

    def test_read_and_units_behind_each_call(self):
        source = random.Random(41)
        for number in range(200):
            line = RandomHand(source, odd=0.2).grow(source.randint(1, 30))
            with self.subTest(number=number, line=line):
                self.check([asked for call in line for asked in (call, read(), units())])

    def test_the_longest_line(self):
        source = random.Random(42)
        line = RandomHand(source, odd=0.3).grow(1099)
        self.assertEqual(len(line), 1100)
        self.check(line)

    def test_every_short_hand_of_small_units(self):
        ranges = ((1, 3, 0), (1, 1, 0), (2, 2, 1), (2, 6, 1), (3, 4, 2))
        lengths = [(mark, gap, held) for mark in range(1, 10) for gap in range(1, 24, 2) for held in (1, 2, 5, 8, 14, 15)]
        for bounds in ranges:
            for mark, gap, held in lengths:
                ahead = mark + gap
                line = [begin(*bounds), down(0), up(mark), read(), at(ahead), read(), down(ahead), read(),
                        at(ahead + held), read(), units(), up(ahead + held), read(), units(), at(ahead + held + 9), read()]
                with self.subTest(bounds=bounds, mark=mark, gap=gap, held=held):
                    self.check(line)


class EachUnitAlone(unittest.TestCase):
    """What a range answers is drawn from what each of its units answers alone."""

    def test_many_lines(self):
        source = random.Random(43)
        for number in range(60):
            lo = source.randint(1, 25)
            hi, e = lo + source.randint(0, 60), source.choice((0, lo - 1, lo // 2))
            unit = source.randint(lo, hi)
            lengths = [max(source.choice((1, 3, 3, 7) if place % 2 else (1, 3)) * unit + source.randint(-e, e), 1)
                       for place in range(source.randint(1, 12))]
            asked = turns(lengths) + [at(sum(lengths) + source.randint(0, 4 * unit)), units(), read()]
            whole = ask_all([begin(lo, hi, e)] + asked)
            alone = {u: ask_all([begin(u, u, e)] + asked) for u in range(lo, hi + 1)}
            with self.subTest(number=number, lo=lo, hi=hi, e=e, lengths=lengths):
                for place in range(1, len(asked) - 1):
                    self.assertEqual(whole[place][0], sum(told[place][0] for told in alone.values()))
                left = [u for u in alone if alone[u][-2] == [1, u, u]]
                self.assertEqual(whole[-2], [len(left), left[0], left[-1]] if left else [0, 0, 0])
                self.check_told(whole[-1], [alone[u][-1] for u in left])

    def check_told(self, told, alone):
        if not alone:
            self.assertEqual(told, [-61])
            return
        rows = [numbers[1:] for numbers in alone]
        size = told[0]
        self.assertEqual(told[1:], rows[0][:size])
        for row in rows:
            self.assertEqual(row[:size], told[1:])
        self.assertTrue(any(row[:size + 1] != rows[0][:size + 1] for row in rows) or size == len(rows[0]))


if __name__ == "__main__":
    unittest.main()
