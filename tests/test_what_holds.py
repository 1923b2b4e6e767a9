"""What holds: never taken back, right, all of it, and nothing before now."""

import random
import unittest

from tests.helper import (CODES, LATEST, RandomHand, TOO_LATE, as_text, ask, ask_all, at, begin, counts_of, down, hand,
                          read, text_behind, texts_behind_each, turns, units, up)


def random_text(source, most):
    words = ["".join(source.choice(sorted(CODES)) for letter in range(source.randint(1, 5)))
             for word in range(source.randint(1, 4))]
    return " ".join(words)[:most].strip()


def off_lengths(source, text, unit, e):
    """The text sent, each length off by e at most, and quite often by e."""
    offs = (-e, e, 0) if source.random() < 0.5 else range(-e, e + 1)
    return [count * unit + source.choice(offs) for count in counts_of(text)]


def with_ats(source, lengths):
    """The turns of these lengths, with ats in the midst of them and at their ends."""
    calls = turns(lengths, first_down=source.choice((0, 50)))
    line = [at(source.randint(0, calls[0][1])), calls[0]]
    for before, call in zip(calls, calls[1:]):
        for t in sorted(source.randint(before[1], call[1]) for many in range(source.randint(0, 2))):
            line.append(at(t))
        line.append(call)
    return line


class NeverTakenBack(unittest.TestCase):
    def check(self, line):
        before = ""
        for call, text in zip(line, texts_behind_each(line)):
            if call[0] == 0 and call[3] < call[1]:
                before = ""
            if before is None:
                self.assertIsNone(text)
            elif text is not None:
                self.assertTrue(text.startswith(before), (call, before, text))
            before = text

    def test_many_hands(self):
        source = random.Random(50)
        for number in range(400):
            line = RandomHand(source, odd=0.3).grow(source.randint(5, 60))
            with self.subTest(number=number, line=line):
                self.check(line)

    def test_many_slacks(self):
        source = random.Random(51)
        for number in range(300):
            lo = source.randint(1, 60)
            e = source.randint(0, lo - 1)
            hi = lo + source.randint(0, 4 * lo)
            lengths = off_lengths(source, random_text(source, 20), source.randint(lo, hi), e)
            line = [begin(lo, hi, e)] + with_ats(source, lengths)
            with self.subTest(number=number, line=line):
                self.check(line)

    def test_lengths_that_leave_several_ways_to_read(self):
        source = random.Random(52)
        told = {}
        for number in range(300):
            lo = source.randint(3, 40)
            hi, e = source.randint(lo, 4 * lo), source.choice((lo - 1, lo - 1, lo // 2, lo // 4))
            lengths = [source.choice((lo, hi, 3 * lo, lo + e, 3 * lo - e) if place % 2 == 0 else
                                     (7 * hi, hi, 3 * hi, lo + e + 1, lo + e, 3 * hi + e + 1))
                       for place in range(source.randint(2, 9))]
            line = [begin(lo, hi, e)] + with_ats(source, lengths)
            with self.subTest(number=number, line=line):
                self.check(line)
            told[text_behind(line)] = True
        self.assertGreater(len(told), 20)

    def test_a_gap_that_was_longer_than_told(self):
        for gap in range(1, 120):
            line = [begin(10, 20, 5), down(0), up(15)] + [at(15 + t) for t in range(gap)] + [down(15 + gap)]
            with self.subTest(gap=gap):
                self.check(line)


class Right(unittest.TestCase):
    def test_many_texts(self):
        source = random.Random(53)
        for number in range(250):
            lo = source.randint(1, 200)
            hi = source.choice((lo, lo + 1, 2 * lo, 3 * lo, source.randint(lo, 4096)))
            e = source.choice((0, lo - 1, source.randint(0, lo - 1)))
            unit, text = source.randint(lo, hi), random_text(source, 20)
            with self.subTest(number=number, lo=lo, hi=hi, e=e, unit=unit, text=text):
                self.check(source, lo, hi, e, unit, text)

    def test_the_widest_ranges(self):
        source = random.Random(54)
        for lo, hi, e, unit in ((1, 4096, 0, 1), (1, 4096, 0, 4096), (1, 4096, 0, 99), (2, 4096, 1, 2), (2, 4096, 1, 4096),
                                (4096, 4096, 4095, 4096), (2000, 4096, 1999, 2000), (2000, 4096, 1999, 4096)):
            with self.subTest(lo=lo, hi=hi, e=e, unit=unit):
                self.check(source, lo, hi, e, unit, "E E E SOS PARIS 73")

    def check(self, source, lo, hi, e, unit, text):
        lengths = off_lengths(source, text, unit, e)
        turned = with_ats(source, lengths)
        end = turned[-1][1]
        turned += [at(end + unit + e), at(end + 3 * unit + e), at(end + 3 * hi + e + 1), at(end + 2000000)]
        asked = [call for turn in turned for call in (turn, units(), read())]
        told = ask_all([begin(lo, hi, e)] + asked)[1:]
        alone = ask([begin(unit, unit, e)] + turned)[1:]
        self.assertEqual(alone, [1] * len(turned))
        for count, left, row in zip(told[::3], told[1::3], told[2::3]):
            self.assertGreaterEqual(count[0], 1)
            self.assertEqual(left[0], count[0])
            self.assertTrue(left[1] <= unit <= left[2], left)
            self.assertTrue((text + " ").startswith(as_text(row)), (text, row))


class AllOfIt(unittest.TestCase):
    def check(self, source, lo, hi, e, unit, text):
        lengths = off_lengths(source, text, unit, e)
        end = sum(lengths)
        line = hand(lo, hi, e, lengths)
        self.assertEqual(text_behind(line + [at(end + 3 * hi + e + 1)]), text + " ")
        self.assertEqual(text_behind(line + [at(LATEST)]), text + " ")
        self.assertIn(text_behind(line + [at(end + 3 * hi + e)]), (text, text + " "))
        # Ahead of the last gap all but the last letter is told.
        self.assertEqual(text_behind(line), text[:-1])

    def test_many_texts(self):
        source = random.Random(55)
        tried = 0
        while tried < 250:
            lo = source.randint(1, 1200)
            hi = source.choice((lo, min(source.randint(lo, 3 * lo), 4096)))
            e = source.choice((0, source.randint(0, lo - 1), max((3 * lo - hi - 1) // 2, 0)))
            if e < lo and hi + 2 * e < 3 * lo and 3 * hi + 2 * e < 7 * lo:
                tried += 1
                unit, text = source.choice((lo, hi, source.randint(lo, hi))), random_text(source, 30)
                with self.subTest(lo=lo, hi=hi, e=e, unit=unit, text=text):
                    self.check(source, lo, hi, e, unit, text)

    def test_a_text_of_a_hundred_bytes(self):
        source = random.Random(56)
        text = ("0123456789 " * 10)[:100]
        self.assertEqual(len(text), 100)
        self.check(source, 60, 80, 15, 70, text)

    def test_just_inside_the_bounds(self):
        # A greater hi or e would break one of the two bounds.
        source = random.Random(57)
        for lo, hi, e in ((10, 22, 1), (10, 23, 0), (10, 11, 9), (10, 21, 3), (1, 2, 0)):
            for unit in (lo, hi):
                with self.subTest(lo=lo, hi=hi, e=e, unit=unit):
                    self.check(source, lo, hi, e, unit, "E T AN 5 0")

    def test_at_the_bound_of_short_and_long_it_may_not_be_known(self):
        self.assertEqual(text_behind(hand(10, 30, 0, [30]) + [at(1000)]), "")
        self.assertEqual(text_behind(hand(10, 12, 9, [21]) + [at(1000)]), "")


class BeforeNow(unittest.TestCase):
    def test_refused_and_nothing_changes(self):
        source = random.Random(58)
        for number in range(150):
            hand_line = RandomHand(source, odd=0.25)
            line, mixed, places = list(hand_line.line), list(hand_line.line), [0]
            for step in range(source.randint(1, 25)):
                slow = hand_line.slow
                if slow.now > 0:
                    early = source.choice((0, slow.now - 1, source.randrange(slow.now)))
                    mixed += [call(early) for call in (down, up, at)] + [at(TOO_LATE), read(), units()]
                call = hand_line.turn()
                hand_line.ask(call)
                line.append(call)
                places.append(len(mixed))
                mixed.append(call)
            with self.subTest(number=number, line=line):
                told = ask_all(mixed)
                self.assertEqual([told[place] for place in places], ask_all(line))
                for call, numbers in zip(mixed, told):
                    if call == at(TOO_LATE):
                        self.assertEqual(numbers, [-22])
                self.check_early(mixed, told)

    def check_early(self, mixed, told):
        now = 0
        for call, numbers in zip(mixed, told):
            if call[0] in (1, 2, 3):
                if call[1] < now:
                    self.assertEqual(numbers, [-22])
                elif numbers[0] >= 0:
                    now = call[1]

    def test_a_tick_that_is_not_behind_the_last_turn(self):
        line = [begin(10, 10, 3), down(50), up(50), up(60), down(60), at(60), down(60), down(70), up(70)]
        self.assertEqual(ask(line), [0, 1, -22, 1, -22, 1, -22, 1, -22])


if __name__ == "__main__":
    unittest.main()
